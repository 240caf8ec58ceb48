package races

import (
	"strings"
	"testing"

	"races/api"
)

func TestP3Length(t *testing.T) {
	filled := func(n int) string {
		return "func main(){" + strings.Repeat(" ", n-13) + "}"
	}
	mustRead(t, filled(700))
	refused(t, api.ErrLong, filled(701))
	refused(t, api.ErrLong, strings.Repeat("$", 701))
	refused(t, api.ErrChar, strings.Repeat("$", 700))
}

// TestP3Bytes: of each byte, standing alone where a statement might begin, whether it begins a word.
func TestP3Bytes(t *testing.T) {
	const known = ";{}(),.+-<=abcdefghijklmnopqrstuvwxyz0123456789"
	for c := range 256 {
		text := "func main(){" + string([]byte{byte(c)})
		switch {
		case c == ' ' || c == '\n':
			refusedAt(t, api.ErrSyntax, 13, text)
		case c == '}':
			refusedAt(t, api.ErrMain, 0, strings.Replace(text, "main", "f", 1))
		case 'a' <= c && c <= 'z':
			refusedAt(t, api.ErrSyntax, 13, text)
		case strings.IndexByte(known, byte(c)) >= 0:
			refusedAt(t, api.ErrSyntax, 12, text)
		default:
			refusedAt(t, api.ErrChar, 12, text)
		}
	}
}

func TestP3Blanks(t *testing.T) {
	printed(t, "\n\nfunc\nmain \n(\n) {x\n=\n 1\n+ y ; } \n ", "func main() {", "  x = 1 + y;", "}")
	refused(t, api.ErrSyntax, "^varg;")
	refused(t, api.ErrSyntax, "func main(){x=a ^b;}")
	refused(t, api.ErrSyntax, "func main(){x=1 ^2;}")
	refused(t, api.ErrSyntax, "func main(){x=y^= =z;}")
	refused(t, api.ErrChar, "func main(){x=1;^\t}")
	refused(t, api.ErrChar, "func main(){x=1;^\r\n}")
}

func TestP3Names(t *testing.T) {
	accepted(t, "a=1;", "z=1;", "abcdef=1;", "a12345=1;", "z9=1;", "a0b1=1;", "l=r;", "vars=1;", "goo=1;", "if1=1;", "news=1;", "locks=1;")
	refused(t, api.ErrName, "func main(){^abcdefg=1;}")
	refused(t, api.ErrName, "func main(){^a123456=1;}")
	refused(t, api.ErrName, "func main(){x=^abcdefghijklmnopqrstuvwxyz$")
	refused(t, api.ErrName, "func main(){^unlocks x;}")
	refused(t, api.ErrName, "^functions")
	refused(t, api.ErrChar, "func main(){ab^Cdefgh=1;}")
	refused(t, api.ErrChar, "func main(){a^_b=1;}")
	refused(t, api.ErrChar, "func main(){^é=1;}")
}

func TestP3Numbers(t *testing.T) {
	accepted(t, "x=0;", "x=999999;", "x=000000;", "x=000001;", "return 123456;")
	refused(t, api.ErrNumber, "func main(){x=^1000000;}")
	refused(t, api.ErrNumber, "func main(){x=^0000000;}")
	refused(t, api.ErrNumber, "func main(){x=^99999999999999999999999999$")
	refused(t, api.ErrSyntax, "func main(){x=12^abcdef;}")
	refused(t, api.ErrName, "func main(){x=12^abcdefg;}")
	refused(t, api.ErrSyntax, "func main(){x=^-1;}")
}

func TestP3Signs(t *testing.T) {
	accepted(t, "x=y==z;", "x=y == z;", "x=y<z;", "x=y-z;", "x=y+z;")
	refused(t, api.ErrSyntax, "func main(){x^==1;}")
	refused(t, api.ErrSyntax, "func main(){x^==;}")
	refused(t, api.ErrSyntax, "func main(){x=y==^=z;}")
	refused(t, api.ErrSyntax, "func main(){x^===y;}")
	refused(t, api.ErrSyntax, "func main(){x=y<^=z;}")
	refused(t, api.ErrSyntax, "func main(){x=y+^+z;}")
}

// TestP3Reserved: words that are no names stand nowhere where a name must.
func TestP3Reserved(t *testing.T) {
	for _, w := range strings.Fields("var mutex func lock unlock join return if else while go new") {
		refused(t, api.ErrSyntax, "var ^"+w+";")
		refused(t, api.ErrSyntax, "mutex ^"+w+";")
		refused(t, api.ErrSyntax, "func ^"+w+"(){}")
		refused(t, api.ErrSyntax, "func main(^"+w+"){}")
		refused(t, api.ErrSyntax, "func main(){x=1+^"+w+";}")
		refused(t, api.ErrSyntax, "func main(){join ^"+w+";}")
		refused(t, api.ErrSyntax, "func main(){x.^"+w+"=1;}")
		accepted(t, w[:1]+"x=1;", w[:len(w)-1]+"z=1;")
	}
}
