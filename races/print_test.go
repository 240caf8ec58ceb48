package races

import (
	"strings"
	"testing"

	"races/api"
)

func TestP5Places(t *testing.T) {
	placed(t, "func main(){}")
	placed(t, "func main(){^x=1;^y=x.l;^x.r=y;^x=new;^go main();^x=go main();^main();^x=main();^join x;^return;^return x;}")
	placed(t, "mutex m;func main(){ ^lock m ;\n\n  ^unlock m;}\n")
	placed(t, "func main(){^if x{^y=1;^while y{^z=1;}}else{^if z{}^w=2;}^x=3;}func f(){^while 1{^f();}^return 0;}")
	placed(t, "func f(){^x=1;}var v;func main(){^f();}")
}

func TestP5PrintStatements(t *testing.T) {
	for _, line := range []string{
		"x = y;", "x = 7;", "x = y + z;", "x = 1 - y;", "x = y < 2;", "x = 3 == 4;",
		"x = v;", "v = x;", "v = 5;", "x = y.l;", "x = y.r;", "x.l = y;", "x.r = 0;", "x = new;",
		"go f();", "go g(1, x);", "x = go f();", "x = go g(x, 2);", "f();", "g(x, y);", "x = f();", "x = g(1, 2);",
		"join x;", "lock m;", "unlock m;", "return;", "return x;", "return 9;",
	} {
		printed(t, inMain(line), "var v;", "var w;", "mutex m;", "func f() {", "}", "func g(p, q) {", "}", "func main() {", "  "+line, "}")
		packed := strings.NewReplacer(" = ", "=", " == ", "==", " + ", "+", " - ", "-", " < ", "<", ", ", ",", ";", " ; ").Replace(line)
		if got, want := mustRead(t, inMain(packed)).Print(), mustRead(t, inMain(line)).Print(); got != want {
			t.Errorf("%q is printed as\n%swant\n%s", packed, got, want)
		}
	}
}

func TestP5PrintNumbers(t *testing.T) {
	printed(t, "func main(){x=007;x=000;x=000100;x=010+00;return 00;}",
		"func main() {", "  x = 7;", "  x = 0;", "  x = 100;", "  x = 10 + 0;", "  return 0;", "}")
	printed(t, "func f(a,b){}func main(){f(01,999999);if 00{}while 01{}}",
		"func f(a, b) {", "}", "func main() {", "  f(1, 999999);", "  if 0 {", "  }", "  while 1 {", "  }", "}")
}

func TestP5PrintBlocks(t *testing.T) {
	printed(t, "func main(){if x{}if x{}else{}while x{}}",
		"func main() {", "  if x {", "  }", "  if x {", "  } else {", "  }", "  while x {", "  }", "}")
	printed(t, "func main(){if x{y=1;if y{z=2;}else{while z{z=3;}w=4;}}else{x=5;}x=6;}",
		"func main() {",
		"  if x {",
		"    y = 1;",
		"    if y {",
		"      z = 2;",
		"    } else {",
		"      while z {",
		"        z = 3;",
		"      }",
		"      w = 4;",
		"    }",
		"  } else {",
		"    x = 5;",
		"  }",
		"  x = 6;",
		"}")
}

// TestP5PrintOrder: declarations are printed in the text's order, whatever they declare.
func TestP5PrintOrder(t *testing.T) {
	printed(t, "mutex n;func main(){x=1;}var b;func f(p,q,r){return r;}mutex a;var c;",
		"mutex n;", "func main() {", "  x = 1;", "}", "var b;", "func f(p, q, r) {", "  return r;", "}", "mutex a;", "var c;")
}

// TestExamples: those of the document that read and print.
func TestExamples(t *testing.T) {
	refused(t, api.ErrMain, "")
	refusedAt(t, api.ErrSyntax, 15, "func main(){x=1")
	refusedAt(t, api.ErrSyntax, 14, "func main(){x.q=1;}")
	refusedAt(t, api.ErrChar, 15, "func main(){x.q$")
	refusedAt(t, api.ErrTwice, 10, "var g;var g;")
	refusedAt(t, api.ErrUse, 20, "var g;func main(){g=g;}")
	refusedAt(t, api.ErrArgs, 23, "func f(a){}func main(){f();}")
	refusedAt(t, api.ErrSyntax, 14, "func main(){x=join")
	printed(t, "func main(){x=007;}", "func main() {", "  x = 7;", "}")
	const w = "var g;mutex m;func w(){g=1;}"
	for _, rest := range []string{
		"func main(){go w();g=2;}", "func main(){t=go w();join t;g=2;}", "func main(){go w();go w();}",
		"func main(){while 1{go w();}}", "func main(){go w();lock m;x=g;unlock m;}",
	} {
		mustRead(t, w+rest)
	}
	mustRead(t, "var g;func w(p){p.r=1;}func main(){o=new;go w(o);x=o.r;}")
}
