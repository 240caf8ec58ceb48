package races

import "testing"

// beside: w writes g beside a main with that body, which begins at place 2; other functions may stand ahead of main, and shift it.
func beside(functions, body string) string {
	return worker + functions + "func main(){go w();" + body + "}"
}

// TestP13Locks: behind a lock it is held, behind an unlock not.
func TestP13Locks(t *testing.T) {
	reported(t, beside("", "lock m;g=2;"), "0-3 var0 roots 1 0 held [] [0]")
	reported(t, beside("", "lock n;g=2;"), "0-3 var0 roots 1 0 held [] [1]")
	reported(t, beside("", "lock n;lock m;g=2;"), "0-4 var0 roots 1 0 held [] [0 1]")
	reported(t, beside("", "g=2;lock m;"), "0-2 var0 roots 1 0")
	reported(t, beside("", "lock m;unlock m;g=2;"), "0-4 var0 roots 1 0")
	reported(t, beside("", "lock m;unlock n;g=2;"), "0-4 var0 roots 1 0 held [] [0]")
	reported(t, beside("", "lock m;lock n;unlock m;g=2;"), "0-5 var0 roots 1 0 held [] [1]")
	reported(t, beside("", "unlock m;lock m;g=2;"), "0-4 var0 roots 1 0 held [] [0]")
	// All else leaves them.
	reported(t, beside("func e(){}", "lock m;x=1;x=x+1;x=h;h=x;o=new;o.l=1;x=o.l;t=go e();join t;e();lock n;unlock n;g=2;"),
		"0-15 var0 roots 1 0 held [] [0]")
}

// TestP13WaysMeet: what is held on all of them.
func TestP13WaysMeet(t *testing.T) {
	reported(t, beside("", "if x{lock m;}g=2;"), "0-4 var0 roots 1 0")
	reported(t, beside("", "if x{}else{lock m;}g=2;"), "0-4 var0 roots 1 0")
	reported(t, beside("", "if x{lock m;}else{lock m;}g=2;"), "0-5 var0 roots 1 0 held [] [0]")
	reported(t, beside("", "if x{lock m;lock n;}else{lock n;}g=2;"), "0-6 var0 roots 1 0 held [] [1]")
	reported(t, beside("", "lock m;if x{unlock m;}g=2;"), "0-5 var0 roots 1 0")
	reported(t, beside("", "lock m;if x{unlock m;return;}g=2;"), "0-6 var0 roots 1 0 held [] [0]")
	reported(t, beside("", "lock m;if x{return;unlock m;}g=2;"), "0-6 var0 roots 1 0 held [] [0]")
	reported(t, beside("", "lock m;while x{g=2;}g=3;"),
		"0-4 var0 roots 1 0 held [] [0]", "0-5 var0 roots 1 0 held [] [0]")
	reported(t, beside("", "while x{lock m;}g=2;"), "0-4 var0 roots 1 0")
	reported(t, beside("", "lock m;while x{g=2;unlock m;}"), "0-4 var0 roots 1 0")
	reported(t, beside("", "lock m;while x{g=2;unlock m;lock m;}"), "0-4 var0 roots 1 0 held [] [0]")
	reported(t, beside("", "lock m;while x{unlock m;return;}g=2;"), "0-6 var0 roots 1 0 held [] [0]")
}

// TestP13AtCalls: at a function's beginning what is held at all its calls that may run.
func TestP13AtCalls(t *testing.T) {
	const f = "func f(){g=2;}"
	reported(t, beside(f, "lock m;f();"), "0-1 var0 roots 1 0 held [] [0]")
	reported(t, beside(f, "lock m;f();unlock m;f();"), "0-1 var0 roots 1 0")
	reported(t, beside(f, "lock m;f();lock n;f();"), "0-1 var0 roots 1 0 held [] [0]")
	reported(t, beside(f, "lock m;f();lock n;unlock m;f();"), "0-1 var0 roots 1 0")
	reported(t, beside(f, "lock m;f();return;unlock m;f();"), "0-1 var0 roots 1 0 held [] [0]")
	reported(t, beside("func e(){f();}"+f, "lock m;e();lock n;f();"), "0-2 var0 roots 1 0 held [] [0]")
	// Both hold the mutex at all calls.
	reported(t, "var g;mutex m;func f(){g=1;}func w(){lock m;f();unlock m;}func main(){go w();lock m;f();unlock m;}")
	reported(t, "var g;mutex m;func f(){g=1;}func w(){lock m;f();unlock m;}func main(){go w();f();}", "0-0 var0 roots 0 1")
	// A function that calls itself with what it holds.
	reported(t, beside("func f(){g=2;if x{f();}}", "lock m;f();"), "0-1 var0 roots 1 0 held [] [0]")
	reported(t, beside("func f(){g=2;unlock m;f();}", "lock m;f();"), "0-1 var0 roots 1 0")
}

// TestP13AtBeginnings: nothing at that of main, and of a function that is started, whoever calls it.
func TestP13AtBeginnings(t *testing.T) {
	reported(t, "var g;mutex m;func w(){g=1;}func main(){lock m;go w();g=2;}", "0-3 var0 roots 1 0 held [] [0]")
	reported(t, "var g;mutex m;func w(){g=1;}func main(){go w();lock m;w();}", "0-0 var0 roots 0 1")
	reported(t, "var g;mutex m;func w(){g=1;}func main(){go w();g=2;lock m;if x{main();}}",
		"0-0 var0 roots 1 1", "0-2 var0 roots 1 0")
	reported(t, beside("func f(){g=2;}", "lock m;f();return;go f();"), "0-1 var0 roots 1 0 held [] [0]")
	reported(t, beside("func f(){g=2;}", "lock m;go f();f();"), "0-1 var0 roots 1 0", "1-1 var0 roots 0 2")
	// A loop may lead back to it.
	reported(t, "var g;mutex m;func w(){while x{g=1;lock m;}}func main(){go w();g=2;}", "1-4 var0 roots 1 0")
}

// TestP13BehindCalls: what is held wherever the function returns, and what was held and can't be unlocked there.
func TestP13BehindCalls(t *testing.T) {
	reported(t, beside("func a(){lock m;}", "a();g=2;"), "0-4 var0 roots 1 0 held [] [0]")
	reported(t, beside("func a(){if x{return;}lock m;}", "a();g=2;"), "0-6 var0 roots 1 0")
	reported(t, beside("func a(){if x{lock m;return 1;}lock m;}", "a();g=2;"), "0-7 var0 roots 1 0 held [] [0]")
	reported(t, beside("func a(){lock m;return;unlock m;}", "a();g=2;"), "0-6 var0 roots 1 0 held [] [0]")
	reported(t, beside("func a(){lock m;return;return;}", "a();g=2;"), "0-6 var0 roots 1 0 held [] [0]")
	reported(t, beside("func a(){return;}", "lock n;a();g=2;"), "0-5 var0 roots 1 0 held [] [1]")
	// It is called with and without a mutex; who had it has it still.
	reported(t, beside("func e(){}", "e();lock m;e();g=2;"), "0-5 var0 roots 1 0 held [] [0]")
	reported(t, beside("func a(){lock n;}", "a();unlock n;lock m;a();g=2;"), "0-7 var0 roots 1 0 held [] [0 1]")
}

// TestP13MayUnlock: what a called function, or one that it calls, may unlock is held behind it only if it is wherever it returns.
func TestP13MayUnlock(t *testing.T) {
	reported(t, beside("func b(){unlock m;}", "lock m;lock n;b();g=2;"), "0-6 var0 roots 1 0 held [] [1]")
	reported(t, beside("func b(){unlock m;unlock n;}", "lock m;lock n;b();g=2;"), "0-7 var0 roots 1 0")
	reported(t, beside("func b(){if x{unlock m;}}", "lock m;b();g=2;"), "0-6 var0 roots 1 0")
	reported(t, beside("func b(){unlock m;}func c(){b();}func d(){c();}", "lock m;d();g=2;"), "0-7 var0 roots 1 0")
	reported(t, beside("func b(){unlock m;lock m;}", "lock m;b();g=2;"), "0-6 var0 roots 1 0 held [] [0]")
	// Also one that calls itself.
	reported(t, beside("func b(){if x{unlock m;b();}}", "b();lock m;b();g=2;"), "0-8 var0 roots 1 0")
	// What may not run unlocks nothing, nor does what a thread does that is started there.
	reported(t, beside("func b(){return;unlock m;}", "b();lock m;b();g=2;"), "0-7 var0 roots 1 0 held [] [0]")
	reported(t, beside("func b(){unlock m;}func c(){return;b();}", "c();lock m;c();g=2;"), "0-8 var0 roots 1 0 held [] [0]")
	reported(t, beside("func b(){unlock m;}func c(){go b();}", "c();lock m;c();g=2;"), "0-7 var0 roots 2 0 held [] [0]")
	// The caller's own unlocks are not the called function's.
	reported(t, beside("func e(){}func b(){e();unlock m;}", "e();lock m;e();g=2;unlock m;b();"), "0-7 var0 roots 1 0 held [] [0]")
}

// TestP13Greatest: behind what never returns all mutexes that there are are held, since nothing takes them away.
func TestP13Greatest(t *testing.T) {
	reported(t, "var g;mutex m;func w(){g=1;}func f(){f();}func main(){f();go w();g=2;}", "0-4 var0 roots 1 0 held [] [0]")
	reported(t, "var g;func w(){g=1;}func f(){f();}mutex m;func main(){f();go w();g=2;}mutex n;mutex k;",
		"0-4 var0 roots 1 0 held [] [0 1 2]")
	reported(t, beside("func f(){if x{f();}}", "lock m;f();g=2;"), "0-6 var0 roots 1 0 held [] [0]")
	reported(t, beside("func a(){if x{a();}else{lock m;}}", "a();g=2;"), "0-6 var0 roots 1 0 held [] [0]")
	reported(t, beside("func a(){b();}func b(){if x{a();}else{lock m;}}", "a();g=2;"), "0-7 var0 roots 1 0 held [] [0]")
}

// TestP13About: a start is about behind it, till its thread is joined.
func TestP13About(t *testing.T) {
	reported(t, worker+"func main(){g=2;go w();}")
	reported(t, worker+"func main(){go w();g=2;}", "0-2 var0 roots 1 0")
	reported(t, worker+"func main(){t=go w();join t;g=2;}")
	reported(t, worker+"func main(){t=go w();g=2;join t;}", "0-2 var0 roots 1 0")
	reported(t, worker+"func main(){if x{go w();}g=2;}", "0-3 var0 roots 1 0")
	reported(t, worker+"func main(){if x{go w();}else{g=2;}}")
	reported(t, worker+"func main(){if x{go w();return;}g=2;}")
	reported(t, worker+"func main(){t=go w();if x{join t;}g=2;}", "0-4 var0 roots 1 0")
	reported(t, worker+"func main(){t=go w();if x{join t;}else{join t;}g=2;}")
	reported(t, worker+"func main(){t=go w();while x{join t;}g=2;}", "0-4 var0 roots 1 0")
	reported(t, worker+"func main(){t=go w();if x{return;join t;}g=2;}", "0-5 var0 roots 1 0")
	// Two are about at a time, and one is joined.
	const e = "func e(){h=1;}"
	reported(t, worker+e+"func main(){t=go w();u=go e();join t;g=2;h=2;}", "1-6 var1 roots 2 0")
	reported(t, worker+e+"func main(){t=go w();u=go e();join u;g=2;h=2;}", "0-5 var0 roots 1 0")
	reported(t, worker+e+"func main(){t=go w();u=go e();join u;join t;g=2;h=2;}")
	// All else leaves them.
	reported(t, worker+"func main(){go w();lock m;unlock m;x=h;h=x;o=new;o.l=1;x=o.r;x=x+1;join u;g=2;}", "0-11 var0 roots 1 0")
}

// TestP13Joins: of a thread of just one start, which does not start twice.
func TestP13Joins(t *testing.T) {
	reported(t, worker+"func main(){t=go w();if x{t=go w();}join t;g=2;}",
		"0-0 var0 roots 1 2", "0-5 var0 roots 1 0")
	reported(t, worker+"func main(){t=go w();u=go w();join t;join u;g=2;}", "0-0 var0 roots 1 2")
	reported(t, worker+"func main(){t=go w();join t;t=go w();join t;g=2;}",
		"0-0 var0 roots 1 2", "0-5 var0 roots 1 0")
	reported(t, worker+"func e(){}func main(){t=go e();t=go w();join t;g=2;}", "0-4 var0 roots 2 0")
	reported(t, worker+"func e(){}func main(){t=go w();t=go e();join t;g=2;}", "0-4 var0 roots 1 0")
	reported(t, worker+"func main(){while x{t=go w();}join t;g=2;}", "0-0 var0 roots 1 1", "0-4 var0 roots 1 0")
	reported(t, worker+"func main(){while x{t=go w();join t;g=2;}}", "0-0 var0 roots 1 1", "0-4 var0 roots 1 0")
	reported(t, worker+"func main(){while x{t=go w();join t;g=2;return;}}")
	reported(t, worker+"func z(){t=go w();return t;}func main(){t=z();join t;u=z();join u;g=2;}",
		"0-0 var0 roots 1 1", "0-7 var0 roots 1 0")
	// One that may not run starts nothing.
	reported(t, worker+"func main(){t=go w();join t;g=2;return;t=go w();}")
	// A join of what may be no thread.
	reported(t, worker+"func main(){go w();join t;g=2;}", "0-3 var0 roots 1 0")
	reported(t, worker+"func main(){t=new;if x{t=go w();}join t;g=2;}")
}

// TestP13AboutAndCalls: at a function's beginning what is about at any of its calls, behind a call what is about where it returns.
func TestP13AboutAndCalls(t *testing.T) {
	const f = "func f(){g=2;}"
	reported(t, worker+f+"func main(){f();go w();}")
	reported(t, worker+f+"func main(){go w();f();}", "0-1 var0 roots 1 0")
	reported(t, worker+f+"func main(){f();go w();f();}", "0-1 var0 roots 1 0")
	reported(t, worker+f+"func main(){f();go w();return;f();}")
	reported(t, worker+"func j(p){join p;}func main(){t=go w();j(t);g=2;}")
	reported(t, worker+"func j(p){if x{return;}join p;}func main(){t=go w();j(t);g=2;}", "0-6 var0 roots 1 0")
	reported(t, worker+"func j(p){if x{join p;return;}join p;}func main(){t=go w();j(t);g=2;}")
	reported(t, worker+"func z(){go w();}func main(){z();g=2;}", "0-3 var0 roots 1 0")
	reported(t, worker+"func z(){if x{go w();return 1;}}func main(){z();g=2;}", "0-5 var0 roots 1 0")
	// Whoever calls, a function returns with all that is about there.
	reported(t, worker+"func e(){}func main(){e();g=2;go w();e();}", "0-2 var0 roots 1 0")
	reported(t, worker+"func e(){}func main(){e();g=2;go w();}")
	// Behind what never returns nothing is about, whatever was ahead of it.
	reported(t, worker+"func f(){f();}func main(){go w();f();g=2;}")
	// Main's beginning is a function's, too.
	reported(t, worker+"func main(){g=2;go w();if x{main();}}", "0-0 var0 roots 1 1", "0-1 var0 roots 1 0")
	// Calls in functions that main does not run bring nothing to main.
	reported(t, worker+"func f(){x=g;}func k(){go w();f();}func main(){f();go k();}", "0-1 var0 roots 1 2")
}
