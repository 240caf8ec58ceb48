package races

import "testing"

// TestP11MayRun: what is told to be reached is reported, and nothing else.
func TestP11MayRun(t *testing.T) {
	// Behind a test both ways, whatever is tested.
	reported(t, worker+"func main(){go w();if 0{g=2;}else{g=3;}}", "0-3 var0 roots 1 0", "0-4 var0 roots 1 0")
	reported(t, worker+"func main(){go w();if 1{}else{g=3;}}", "0-3 var0 roots 1 0")
	reported(t, worker+"func main(){go w();while 0{g=2;}g=3;}", "0-3 var0 roots 1 0", "0-4 var0 roots 1 0")
	reported(t, worker+"func main(){go w();while 1{}g=2;}", "0-3 var0 roots 1 0")
	// Behind a while's block its test, and so the block again.
	reported(t, worker+"func main(){while 1{g=2;go w();}}", "0-0 var0 roots 1 1", "0-2 var0 roots 1 0")
	reported(t, worker+"func main(){while 1{g=2;go w();return;}}")
	// Into functions that are called or started, from wherever.
	reported(t, worker+"func f(){g=2;}func main(){go w();f();}", "0-1 var0 roots 1 0")
	reported(t, worker+"func f(){go w();}func main(){f();g=2;}", "0-3 var0 roots 1 0")
	reported(t, "func main(){}")
	reported(t, "var g;func e(){}func main(){go e();e();g=1;}")
}

// TestP11NothingBehindAReturn: what may not run is reported nowhere, and starts, calls, makes and holds nothing.
func TestP11NothingBehindAReturn(t *testing.T) {
	reported(t, worker+"func main(){go w();return;g=2;}")
	reported(t, "var g;func w(){g=1;return 5;g=3;}func main(){go w();g=2;}", "0-4 var0 roots 1 0")
	reported(t, worker+"func main(){go w();if x{return;}else{return;}g=2;}")
	reported(t, worker+"func main(){go w();if x{return;}g=2;}", "0-4 var0 roots 1 0")
	reported(t, worker+"func main(){go w();while x{return;}g=2;}", "0-4 var0 roots 1 0")
	reported(t, worker+"func main(){go w();while x{if y{return;}else{return;g=2;}}}")
	// Functions that are named by nothing that may run.
	reported(t, worker+"func f(){go w();g=2;}func main(){}")
	reported(t, worker+"func f(){g=2;}func main(){go w();return;f();}")
	reported(t, worker+"func main(){g=2;return;go w();}")
	reported(t, worker+"func f(){g=2;e();}func e(){f();}func main(){go w();}")
}

// TestP11BehindACall: the next statement may run, whether the function returns or not.
func TestP11BehindACall(t *testing.T) {
	reported(t, "var g;func w(){g=1;}func f(){f();}func main(){f();go w();g=2;}", "0-4 var0 roots 1 0")
	reported(t, "var g;func w(){g=1;}func f(){f();g=2;}func main(){go w();go f();}", "0-2 var0 roots 1 2")
}

// TestP11EnteredTwice: what starts w is in a function f; if that is entered twice, w runs beside itself.
func TestP11EnteredTwice(t *testing.T) {
	const f = worker + "func f(){go w();}"
	const once, twice = "", "0-0 var0 roots 1 1"
	for main, want := range map[string]string{
		"f();":                       once,
		"go f();":                    once,
		"f();f();":                   twice,
		"go f();go f();":             twice,
		"f();go f();":                twice,
		"if x{f();}else{f();}":       twice,
		"f();return;f();":            once,
		"if x{f();return;}f();":      twice,
		"while x{f();}":              twice,
		"while x{go f();}":           twice,
		"while x{if y{f();}}":        twice,
		"while x{while y{}f();}":     twice,
		"while x{f();return;}":       once,
		"while x{if y{f();return;}}": once,
		"while x{y=1;}f();":          once,
		"f();while x{y=1;}":          once,
		"if x{}else{while y{f();}}":  twice,
		"t=f();t=f();":               twice,
	} {
		if want == once {
			reported(t, f+"func main(){"+main+"}")
			continue
		}
		reported(t, f+"func main(){"+main+"}", want)
	}
}

// TestP11EnteredTwiceByOthers: by one that is itself entered twice, however far away.
func TestP11EnteredTwiceByOthers(t *testing.T) {
	reported(t, worker+"func f(){go w();}func e(){f();}func main(){e();}")
	reported(t, worker+"func f(){go w();}func e(){f();}func main(){e();e();}", "0-0 var0 roots 1 1")
	reported(t, worker+"func f(){go w();}func e(){go f();}func main(){e();go e();}", "0-0 var0 roots 1 1")
	reported(t, worker+"func main(){d();go d();}func d(){e();}func e(){f();}func f(){go w();}", "0-0 var0 roots 2 2")
	reported(t, worker+"func f(){go w();}func e(){f();}func d(){e();}func main(){while x{d();}}", "0-0 var0 roots 1 1")
	// By itself, beside the one who called it first.
	reported(t, worker+"func f(){go w();if x{f();}}func main(){f();}", "0-0 var0 roots 1 1")
	reported(t, worker+"func f(){go w();e();}func e(){if x{f();}}func main(){f();}", "0-0 var0 roots 1 1")
	reported(t, worker+"func f(){go w();return;f();}func main(){f();}")
}

// TestP11MainEnteredTwice: of main one entry is enough, since it begins by itself.
func TestP11MainEnteredTwice(t *testing.T) {
	reported(t, worker+"func main(){go w();}")
	reported(t, worker+"func main(){go w();if x{main();}}", "0-0 var0 roots 1 1")
	reported(t, worker+"func main(){go w();return;main();}")
	reported(t, worker+"func f(){main();}func main(){go w();if x{f();}}", "0-0 var0 roots 1 1")
	reported(t, worker+"func f(){main();}func main(){go w();}")
	reported(t, "var g;func main(){g=1;go main();}", "0-0 var0 roots 1 1")
}

// TestP11StartsTwice: a start in a loop; its root runs beside itself.
func TestP11StartsTwice(t *testing.T) {
	reported(t, worker+"func main(){while 1{go w();}}", "0-0 var0 roots 1 1")
	reported(t, worker+"func main(){while 1{go w();return;}}")
	reported(t, worker+"func main(){while 1{if x{go w();return;}}}")
	reported(t, worker+"func main(){while 1{if x{return;}go w();}}", "0-0 var0 roots 1 1")
	reported(t, worker+"func main(){while x{y=1;}go w();while x{}}")
	reported(t, worker+"func main(){while x{while y{go w();return;}}}")
	reported(t, worker+"func main(){while x{while y{go w();}}}", "0-0 var0 roots 1 1")
	// Of two one starts twice.
	reported(t, worker+"func e(){h=1;}func main(){go w();while x{go e();}}", "1-1 var1 roots 2 2")
}

// TestP11RootNumbers: starts count from the left, also those that may not run, in whatever function they are.
func TestP11RootNumbers(t *testing.T) {
	reported(t, worker+"func main(){if x{return;go w();}go w();g=2;}", "0-5 var0 roots 2 0")
	reported(t, worker+"func e(){go w();go w();}func main(){go w();g=2;}func f(){go w();}", "0-4 var0 roots 3 0")
	reported(t, worker+"func main(){if x{if y{go w();}}else{go w();}g=2;}", "0-5 var0 roots 1 0")
	reported(t, worker+"func main(){while x{return;go w();}go w();while y{go w();}}", "0-0 var0 roots 2 3")
}

// TestP11RootsRun: the function in which it begins, and those that are called there, and so on; not those that are started.
func TestP11RootsRun(t *testing.T) {
	reported(t, "var g;func c(){g=1;}func b(){c();}func w(){b();}func main(){go w();g=2;}", "0-4 var0 roots 1 0")
	reported(t, "var g;func w(){b();}func b(){c();}func c(){g=1;}func main(){go w();g=2;}", "2-4 var0 roots 1 0")
	reported(t, "var g;func c(){g=1;}func w(){return;c();}func main(){c();go w();g=2;}")
	reported(t, "var g;func c(){g=1;}func b(){go c();}func main(){go b();g=2;}", "0-3 var0 roots 1 0")
	reported(t, "var g;func c(){g=1;}func b(){go c();}func main(){b();g=2;}", "0-3 var0 roots 1 0")
	// A function that several roots run: the first two of them that may run at a time.
	reported(t, "var g;func c(){g=1;}func a(){c();}func b(){c();}func main(){go a();go b();c();}", "0-0 var0 roots 0 1")
	reported(t, "var g;func c(){g=1;}func a(){c();}func b(){c();}func main(){c();go a();go b();}", "0-0 var0 roots 1 2")
	reported(t, "var g;func c(){if x{c();}g=1;}func main(){go c();go c();}", "2-2 var0 roots 1 2")
}

// TestP11Below: behind a start all that its root starts is about, and all that these start; a join of its thread leaves them.
func TestP11Below(t *testing.T) {
	reported(t, "var g;func a(){g=1;}func b(){go a();}func main(){t=go b();join t;g=2;}", "0-4 var0 roots 1 0")
	reported(t, "var g;func a(){g=1;}func b(){go a();}func c(){go b();}func main(){t=go c();join t;g=2;}", "0-5 var0 roots 1 0")
	reported(t, "var g;func c(){go b();}func b(){go a();}func a(){g=1;}func main(){t=go c();join t;g=2;}", "2-5 var0 roots 2 0")
	reported(t, "var g;func a(){g=1;}func b(){go a();}func c(){b();}func main(){t=go c();join t;g=2;}", "0-5 var0 roots 1 0")
	// What may not run starts nothing, and is below nothing.
	reported(t, "var g;func a(){g=1;}func b(){return;go a();}func main(){t=go b();join t;g=2;}")
	reported(t, "var g;func a(){g=1;}func b(){go a();}func c(){return;b();}func main(){t=go c();join t;g=2;}")
	reported(t, "var g;func a(){g=1;}func b(){go a();}func c(){}func main(){t=go c();join t;g=2;go b();}")
	// Below is not above.
	reported(t, "var g;func a(){}func b(){g=1;t=go a();}func main(){t=go b();join t;g=2;}")
	// A start may be below itself; it is entered by two starts then.
	reported(t, "var g;func a(){g=1;go a();}func main(){t=go a();join t;g=2;}", "0-0 var0 roots 1 1", "0-4 var0 roots 1 0")
}
