package races

import (
	"strings"
	"testing"

	"races/api"
)

// wholes: a statement of each form, its words parted by blanks.
func wholes() []string {
	return []string{
		"x = y ;", "x = 5 ;", "x = y + 1 ;", "x = 1 - y ;", "x = y < z ;", "x = 1 == 2 ;",
		"x = y . l ;", "x = y . r ;", "x . l = y ;", "x . r = 5 ;", "x = new ;",
		"go f ( ) ;", "go g ( 1 , y ) ;", "x = go f ( ) ;", "x = go g ( y , 2 ) ;",
		"f ( ) ;", "g ( x , 1 ) ;", "x = f ( ) ;", "x = g ( 1 , x ) ;",
		"join x ;", "lock m ;", "unlock m ;", "return ;", "return x ;", "return 7 ;",
		"if x { }", "if 1 { x = 1 ; f ( ) ; }", "if x { } else { }", "if x { return ; } else { y = 2 ; }",
		"while x { }", "while 1 { f ( ) ; x = 1 ; }",
	}
}

func TestP4Forms(t *testing.T) {
	for _, s := range wholes() {
		accepted(t, s, strings.ReplaceAll(s, " ", "\n"), s+s)
	}
	mustRead(t, "func main(){}")
	mustRead(t, "func main(){}var v;mutex m;func f(a){}")
	mustRead(t, "func main(){}func f(a,b,c){}")
}

// TestP4OneWordAhead: a statement of each form, broken off ahead of each of its words: at the text's end, by a word that stands in no statement, by a byte that begins no word.
func TestP4OneWordAhead(t *testing.T) {
	const head = "var v;mutex m;func f(){}func g(p,q){}func main(){"
	for _, s := range wholes() {
		words := strings.Fields(s)
		for i := range words {
			begun := head + strings.Join(words[:i], " ")
			refusedAt(t, api.ErrSyntax, len(begun), begun)
			refusedAt(t, api.ErrSyntax, len(begun)+2, begun+" \n")
			refused(t, api.ErrSyntax, begun+" ^var")
			refused(t, api.ErrSyntax, begun+" ^var$")
			refused(t, api.ErrSyntax, begun+" ^var abcdefg")
			refused(t, api.ErrChar, begun+" ^$")
			refused(t, api.ErrName, begun+" ^abcdefg")
			refused(t, api.ErrNumber, begun+" ^1234567")
		}
	}
}

func TestP4Declarations(t *testing.T) {
	for _, text := range []string{
		"^x", "^;", "^{", "^1", "^lock m;", "var^;", "var ^1;", "var g^", "var g^,h;", "var g^=1;", "mutex^;", "mutex m^",
		"func^", "func ^1(){}", "func main^", "func main^{}", "func main(^", "func main()^", "func main()^;", "func main(^1){}",
		"func main(){}^x", "func main(){}^}", "func main(){}^;", "func main(){^",
		"func main(){}func f(^,a){}", "func main(){}func f(a,^){}", "func main(){}func f(a ^b){}", "func main(){}func f(a^;b){}", "func main(){}func f(a^",
	} {
		refused(t, api.ErrSyntax, text)
	}
}

func TestP4Statements(t *testing.T) {
	for _, body := range []string{
		"^;", "^1=x;", "^new;", "^else{}", "^{}", "^var x;", "^func f(){}",
		"x^;", "x^+1;", "x^,", "x=^;", "x=1^(2);", "x=1^.l;", "x=1+^;", "x=1+2^+3;", "x=y^=z;",
		"x=y.l^+1;", "x=y.l^.r;", "x=1+y^.l;", "x=1+y^();", "x=new ^y;", "x=^var;", "x=^join;",
		"x.^1=2;", "x.l^;", "x.l^==1;", "x.l=^new;", "x.l=^go f();", "x.l=y^.r;", "x.l=y^+1;", "x.l=f^();",
		"go^;", "go ^new;", "go f^;", "go ^1();", "x=go f^;", "x=go ^go f();", "go x^=f();",
		"f(^,1);", "f(1,^);", "f(1 ^2);", "f(1^+2);", "f(g^());", "f()^+1;", "f()^.l;",
		"join ^1;", "join ^;", "join x^,y;", "lock ^1;", "unlock ^;", "return x^+1;", "return ^new;", "return f^();",
		"if ^{}", "if x ^y;", "if x^+1{}", "if ^if{}", "if x{}else ^y;", "if x{}else ^if y{}", "if x{}else{}^else{}", "if ^(x){}",
		"while^{}", "while x^;", "while x{}^else{}",
	} {
		refused(t, api.ErrSyntax, inMain(body))
	}
}

// TestP4Sides: a name behind a dot that is neither l nor r is refused where it stands, but behind the word that follows it.
func TestP4Sides(t *testing.T) {
	accepted(t, "x.l=1;", "x.r=1;", "y=x.l;", "y=x.r;", "l.l=r;", "r=l.r;")
	refused(t, api.ErrSyntax, "func main(){x.^q=1;}")
	refused(t, api.ErrSyntax, "func main(){y=x.^q;}")
	refused(t, api.ErrSyntax, "func main(){x.^ll=1;}")
	refused(t, api.ErrSyntax, "func main(){x.^l1=1;}")
	refused(t, api.ErrSyntax, "func main(){x.^q")
	refused(t, api.ErrSyntax, "func main(){x.^q var")
	refused(t, api.ErrSyntax, "func main(){x.^q 1$")
	refused(t, api.ErrChar, "func main(){x.q^$")
	refused(t, api.ErrChar, "func main(){y=x.q ^$")
	refused(t, api.ErrName, "func main(){x.q ^abcdefg")
	refused(t, api.ErrNumber, "func main(){x.q ^1234567")
	// What is no name is refused at once.
	refused(t, api.ErrSyntax, "func main(){x.^new$")
	refused(t, api.ErrSyntax, "func main(){x.^1$")
	refused(t, api.ErrSyntax, "func main(){x.^;$")
}

// TestP4Depth: six blocks within one another are not too many; the brace of a seventh is told ahead of all behind it.
func TestP4Depth(t *testing.T) {
	for _, open := range []string{"if x{", "while 1{", "if x{}else{"} {
		five := strings.Repeat(open, 5)
		accepted(t, five+strings.Repeat("}", 5), strings.Repeat(five+strings.Repeat("}", 5), 2))
		six := inMain("")
		six = six[:len(six)-1] + five + strings.Replace(open, "{", "^{", 1)
		for _, behind := range []string{"", "$", "abcdefg", "}", "var", "{"} {
			refused(t, api.ErrDepth, six+behind)
		}
	}
	refused(t, api.ErrDepth, "func main(){if x{if x{if x{if x{if x{}else{if x^{}}}}}}}")
	// Where no brace stands, its depth is not asked.
	refused(t, api.ErrSyntax, "func main(){if x{if x{if x{if x{if x{if x^;")
}

// TestP4FirstFault: the first fault of words and form counts, ahead of all faults of names.
func TestP4FirstFault(t *testing.T) {
	refused(t, api.ErrChar, "var g;var g;func main(){x=^$;}")
	refused(t, api.ErrSyntax, "var g;func main(){lock g;x.^q=1;}")
	refused(t, api.ErrSyntax, "var g;var g^")
	refused(t, api.ErrSyntax, "func f(a,a){}^}")
	refused(t, api.ErrName, "func f(a,a){}var ^abcdefg")
	refused(t, api.ErrDepth, "var g;var g;func main(){if x{if x{if x{if x{if x{if x^{$")
	refused(t, api.ErrSyntax, "func main(){x^;y=$;}")
	refused(t, api.ErrChar, "func main(){x^$;}")
	refused(t, api.ErrSyntax, strings.Repeat("var a;", 100)+"^x")
}
