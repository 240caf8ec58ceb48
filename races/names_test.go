package races

import (
	"strings"
	"testing"

	"races/api"
)

func TestP5DeclaredTwice(t *testing.T) {
	kinds := []string{"var @;", "mutex @;", "func @(){}"}
	for _, first := range kinds {
		for _, second := range kinds {
			refused(t, api.ErrTwice, strings.Replace(first, "@", "g", 1)+strings.Replace(second, "@", "^g", 1))
		}
	}
	refused(t, api.ErrTwice, "func main(){}func ^main(){}")
	mustRead(t, "var l;mutex r;func main(){}")
}

func TestP5TooManyDeclared(t *testing.T) {
	mustRead(t, "var a;var b;var c;var d;var e;mutex x;mutex y;mutex z;func f(){}func g(){}func h(){}func i(){}func main(){}")
	refused(t, api.ErrFull, "var a;var b;var c;var d;var e;var ^f;")
	refused(t, api.ErrFull, "mutex a;mutex b;mutex c;mutex ^d;")
	refused(t, api.ErrFull, "func a(){}func b(){}func c(){}func d(){}func e(){}func ^main(){}")
	// A name that is one too many, and declared already: that counts.
	refused(t, api.ErrTwice, "var a;var b;var c;var d;var e;var ^a;")
	refused(t, api.ErrTwice, "mutex a;mutex b;mutex c;mutex ^a;")
	// Declarations count in their order, ahead of parameters and statements.
	refused(t, api.ErrFull, "mutex a;mutex b;mutex c;mutex ^d;var a;")
	refused(t, api.ErrTwice, "func main(p,p){q=main;}var v;var ^v;")
}

func TestP5Parameters(t *testing.T) {
	mustRead(t, "func main(){}func f(a,b,c){}func g(a,b,c){}")
	refused(t, api.ErrTwice, "func main(){}func f(a,^a){}")
	refused(t, api.ErrTwice, "func main(){}func f(a,b,^a){}")
	refused(t, api.ErrTwice, "func main(){}func f(^f){}")
	refused(t, api.ErrTwice, "func main(){}func f(a,^v){}var v;")
	refused(t, api.ErrTwice, "func main(){}func f(^m){}mutex m;")
	refused(t, api.ErrTwice, "func f(a,^g){}func g(){}func main(){}")
	refused(t, api.ErrFull, "func main(){}func f(a,b,c,^d){}")
	refused(t, api.ErrFull, "func main(){}func f(a,b,c,^d,a){}")
	refused(t, api.ErrTwice, "func main(){}func f(a,b,c,^a){}")
	// Parameters count in the functions' order, ahead of all statements.
	refused(t, api.ErrTwice, "func main(){x=main;}func f(a,^a){}")
	refused(t, api.ErrTwice, "func f(^f){}func g(a,b,c,d){}")
	refused(t, api.ErrFull, "func f(a,b,c,^d){}func g(g){}")
}

func TestP5Statements(t *testing.T) {
	mustRead(t, "func main(){"+strings.Repeat("x=1;", 48)+"}")
	refused(t, api.ErrFull, "func main(){"+strings.Repeat("x=1;", 48)+"^x=1;}")
	// Of a statement that is one too many nothing else counts.
	refused(t, api.ErrFull, "func main(){"+strings.Repeat("x=1;", 48)+"^main=1;}")
	refused(t, api.ErrUse, "func main(){"+strings.Repeat("x=1;", 47)+"^main=1;x=1;}")
	// Tests count, and so do statements of all functions.
	mustRead(t, "func f(){"+strings.Repeat("if x{}", 24)+"}func main(){"+strings.Repeat("while x{}", 24)+"}")
	refused(t, api.ErrFull, "func f(){"+strings.Repeat("if x{}", 24)+"}func main(){"+strings.Repeat("while x{}", 24)+"^x=1;}")
	refused(t, api.ErrFull, "func f(){"+strings.Repeat("x=1;", 47)+"}func main(){while x{^x=1;}}")
	refused(t, api.ErrFull, "func f(){"+strings.Repeat("x=1;", 47)+"}func main(){if x{}else{^x=1;}}")
}

func TestP5Locals(t *testing.T) {
	accepted(t, "a=1;b=2;c=3;d=4;e=5;h=6;a=h;", "a=b;c=d;e=h;", "join a;b.l=c;d=e.r;return h;")
	refused(t, api.ErrFull, inMain("a=1;b=2;c=3;d=4;e=5;h=6;^i=7;"))
	refused(t, api.ErrFull, inMain("a=b;c=d;e=h;join ^i;"))
	refused(t, api.ErrFull, inMain("a=b;c=d;e=h;return ^i;"))
	refused(t, api.ErrFull, inMain("a=b;c=d;e=h;if ^i{}"))
	refused(t, api.ErrFull, inMain("a=b;c=d;e=h;while ^i{}"))
	refused(t, api.ErrFull, inMain("a=b;c=d;e=h;a=^i.l;"))
	refused(t, api.ErrFull, inMain("a=b;c=d;e=h;^i.l=j;"))
	refused(t, api.ErrFull, inMain("a=b;c=d;e=h;a.l=^i;"))
	refused(t, api.ErrFull, inMain("a=b;c=d;e=h;v=^i;"))
	refused(t, api.ErrFull, inMain("a=b;c=d;e=h;^i=v;"))
	refused(t, api.ErrFull, inMain("a=b;c=d;e=h;g(a,^i);"))
	refused(t, api.ErrFull, inMain("a=b;c=d;e=h;if a{if b{^i=1;}}"))
	// Parameters are among them; each function has its own.
	mustRead(t, "func main(){a=b;c=d;e=f;}func g(x,y,z){u=v;w=x;}")
	refused(t, api.ErrFull, "func main(){}func g(x,y,z){u=v;w=^t;}")
	mustRead(t, "func main(){x=y;}func g(a,b,c){x=y;z=a;}")
}

func TestP5Uses(t *testing.T) {
	accepted(t, "v=x;", "v=7;", "x=v;", "w=x;x=w;", "v=p;")
	for _, body := range []string{
		// A variable is stored plainly, and loaded plainly.
		"v=^w;", "v=^v;", "^v=x+1;", "^v=1==2;", "x=^v+1;", "x=1+^v;", "x=^v<w;", "^v=w-w;",
		"^v=new;", "^v=f();", "^v=go f();", "^v=x.l;", "^v.l=1;", "x=^v.r;", "x.l=^v;",
		"join ^v;", "return ^v;", "if ^v{}", "while ^v{}", "g(1,^v);", "go g(^v,1);", "x=g(^v,w);",
		// Mutexes and functions are no locals, nor variables.
		"^m=1;", "^f=1;", "x=^m;", "x=^f;", "v=^m;", "v=^f;", "x=1-^m;", "^m.l=1;", "x=^f.l;", "join ^m;", "return ^main;", "if ^f{}", "g(^g,1);",
		// Mutexes stand behind lock and unlock, and nothing else.
		"lock ^v;", "lock ^f;", "lock ^x;", "unlock ^v;", "unlock ^main;", "unlock ^x;", "x=1;lock ^x;",
		// Functions are called and started, and nothing else.
		"^x();", "^v();", "^m();", "x=^y();", "x=^v(1);", "go ^x();", "go ^m();", "x=go ^v(1);", "x=1;^x();",
	} {
		refused(t, api.ErrUse, inMain(body))
	}
	accepted(t, "lock m;unlock m;", "f();g(1,2);x=f();main();", "go main();x=go g(x,x);")
}

func TestP5Arguments(t *testing.T) {
	refused(t, api.ErrArgs, inMain("^f(1);"))
	refused(t, api.ErrArgs, inMain("^g(1);"))
	refused(t, api.ErrArgs, inMain("^g(1,2,3);"))
	refused(t, api.ErrArgs, inMain("x=^g();"))
	refused(t, api.ErrArgs, inMain("go ^f(x);"))
	refused(t, api.ErrArgs, inMain("x=go ^g(x,y,z,1,2);"))
	// A function that is declared further on is known already.
	refused(t, api.ErrArgs, "func main(){^h(1);}func h(){}")
	mustRead(t, "func main(){h(1);}func h(a){main();}")
}

func TestP5NewsAndStarts(t *testing.T) {
	accepted(t, strings.Repeat("x=new;", 6)+strings.Repeat("go f();", 5))
	refused(t, api.ErrFull, inMain(strings.Repeat("x=new;", 6)+"x=^new;"))
	refused(t, api.ErrFull, inMain(strings.Repeat("x=go f();", 5)+"x=^go f();"))
	refused(t, api.ErrFull, inMain(strings.Repeat("go f();", 5)+"^go f();"))
	refused(t, api.ErrFull, inMain("if x{"+strings.Repeat("x=new;", 6)+"}else{x=^new;}"))
	refused(t, api.ErrFull, "func f(){x=new;x=new;x=new;}func main(){x=new;x=new;x=new;x=^new;}")
	refused(t, api.ErrFull, "func f(){go f();go f();go f();}func main(){go f();go f();^go f();}")
}

// TestP5Order: within a statement what is assigned, then new and go, then the function, its arguments' number, then the right side from the left.
func TestP5Order(t *testing.T) {
	sixLocals := "a=b;c=d;e=h;"
	sixNews := strings.Repeat("a=new;", 6)
	fiveStarts := strings.Repeat("go f();", 5)
	refused(t, api.ErrFull, inMain(sixLocals+sixNews+"^i=new;"))
	refused(t, api.ErrUse, inMain(sixNews+"^v=new;"))
	refused(t, api.ErrUse, inMain(fiveStarts+"^v=go x(w);"))
	refused(t, api.ErrFull, inMain(sixLocals+fiveStarts+"^i=go x();"))
	refused(t, api.ErrFull, inMain(fiveStarts+"x=^go y(v);"))
	refused(t, api.ErrFull, inMain(fiveStarts+"^go f(v);"))
	refused(t, api.ErrUse, inMain("^v=y(w);"))
	refused(t, api.ErrUse, inMain("x=^y(v);"))
	refused(t, api.ErrArgs, inMain("x=^g(v);"))
	refused(t, api.ErrArgs, inMain(sixLocals+"^g(i);"))
	refused(t, api.ErrFull, inMain(sixLocals+"g(^i,v);"))
	refused(t, api.ErrUse, inMain(sixLocals+"g(^v,i);"))
	refused(t, api.ErrFull, inMain(sixLocals+"^i=v+w;"))
	refused(t, api.ErrUse, inMain(sixLocals+"^v=i+w;"))
	refused(t, api.ErrUse, inMain(sixLocals+"a=^v+i;"))
	refused(t, api.ErrFull, inMain(sixLocals+"a=^i+v;"))
	refused(t, api.ErrUse, inMain(sixLocals+"^v.l=i;"))
	refused(t, api.ErrFull, inMain(sixLocals+"^i=v.l;"))
	refused(t, api.ErrUse, inMain("if ^v{x=w.l;}else{}"))
	refused(t, api.ErrUse, inMain("if x{x=^w.l;}else{v.l=1;}"))
	refused(t, api.ErrUse, inMain("if x{}else{^v.l=1;}v.r=1;"))
	refused(t, api.ErrUse, inMain("while ^v{x=w.l;}"))
	// From the left through all functions.
	refused(t, api.ErrUse, "var v;func f(){x=^v.l;}func main(){f(1);}")
	refused(t, api.ErrArgs, "var v;func main(){^f(1);}func f(){x=v.l;}")
}

func TestP5Main(t *testing.T) {
	for _, text := range []string{"", " \n", "var v;", "var main;", "mutex main;", "func f(){}", "func main(x){}", "func f(){x=1;}func main(a,b,c){}"} {
		refused(t, api.ErrMain, text)
	}
	// It is asked last of all.
	refused(t, api.ErrUse, "func f(){lock ^x;}")
	refused(t, api.ErrUse, "func main(a){lock ^x;}")
	refused(t, api.ErrArgs, "func main(a){^main();}")
	refused(t, api.ErrTwice, "var main;var ^main;")
}
