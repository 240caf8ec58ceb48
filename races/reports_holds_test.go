package races

import "testing"

// putter: a function w, started with something, writes its field l, at place 0.
const putter = "var g;var h;func w(p){p.l=1;}"

// TestP12Assignments: what may be held goes from right to left, also by way of variables, whenever that may come.
func TestP12Assignments(t *testing.T) {
	reported(t, putter+"func main(){o=new;go w(o);x=o;y=x;z=y.l;}", "0-5 new0.l roots 1 0")
	reported(t, putter+"func main(){o=new;go w(o);o.l=2;}", "0-3 new0.l roots 1 0")
	// The order of statements is no matter.
	reported(t, putter+"func main(){go w(o);z=y.l;y=x;x=o;o=new;}", "0-2 new0.l roots 1 0")
	// By way of variables, each of its own.
	reported(t, "var g;var h;func w(){x=g;x.l=1;}func main(){o=new;g=o;go w();o.l=2;}", "1-5 new0.l roots 1 0")
	reported(t, "var g;var h;func w(){x=h;x.l=1;}func main(){o=new;g=o;go w();o.l=2;}")
	reported(t, "var g;var h;func w(){x=h;x.l=1;}func main(){o=new;g=o;y=g;h=y;go w();y.l=2;}", "1-7 new0.l roots 1 0")
	// Locals are a function's own.
	reported(t, "var g;func w(){o.l=1;}func main(){o=new;g=o;go w();o.l=2;}")
}

// TestP12Numbers: numbers, sums and tests hold nothing.
func TestP12Numbers(t *testing.T) {
	for _, x := range []string{"x=0;", "x=o+0;", "x=0-o;", "x=o<1;", "x=o==o;", "if o{x=1;}", "while o{x=1;}"} {
		reported(t, putter+"func main(){o=new;go w(o);"+x+"y=x.l;x.l=2;}")
	}
	reported(t, putter+"func main(){go w(7);x.l=2;}")
}

// TestP12Fields: each thing has two fields, each of which holds what is put there.
func TestP12Fields(t *testing.T) {
	const far = "func w(p){x=p.r;x.l=1;}"
	reported(t, far+"func main(){o=new;q=new;o.r=q;go w(o);q.l=2;}", "1-6 new1.l roots 1 0")
	reported(t, far+"func main(){o=new;q=new;o.l=q;go w(o);q.l=2;}")
	reported(t, far+"func main(){o=new;q=new;y=o;y.r=q;go w(o);x=o.r;x.l=2;}", "1-8 new1.l roots 1 0")
	// The fields of another thing.
	reported(t, far+"func main(){o=new;q=new;q.r=q;go w(o);q.l=2;}")
	// All things that may be held, and what is put into each of them.
	reported(t, far+"func main(){a=new;b=new;if x{a=b;}c=new;a.r=c;go w(b);c.l=2;}", "1-9 new2.l roots 1 0")
	reported(t, far+"func main(){a=new;b=new;b.r=b;if x{a=b;}go w(a);b.l=2;}", "1-8 new1.l roots 1 0")
	// Around and around.
	reported(t, "func w(p){while p{p=p.l;}p.r=1;}func main(){o=new;q=new;s=new;o.l=q;q.l=s;s.l=o;go w(s);q.r=2;}",
		"2-10 new1.r roots 1 0")
	// Fields hold no threads that are started by others, but do hold their own.
	reported(t, "var g;func w(){g=1;}func main(){o=new;t=go w();o.l=t;x=o.l;join x;g=2;}")
	reported(t, "var g;func w(){g=1;}func main(){o=new;t=go w();o.l=t;x=o.r;join x;g=2;}", "0-6 var0 roots 1 0")
}

// TestP12Arguments: parameters hold what is handed over, by calls and by starts, each its own.
func TestP12Arguments(t *testing.T) {
	reported(t, putter+"func f(q){q.l=2;}func main(){o=new;go w(o);f(o);}", "0-1 new0.l roots 1 0")
	reported(t, "func w(a,b,c){b.l=1;}func main(){o=new;q=new;go w(o,q,o);q.l=2;o.l=3;}", "0-4 new1.l roots 1 0")
	reported(t, "func w(a,b,c){c.l=1;}func main(){o=new;q=new;go w(o,0,q);q.l=2;o.l=3;}", "0-4 new1.l roots 1 0")
	reported(t, putter+"func f(a,b){b.l=2;}func main(){o=new;go w(o);f(o,1);f(1,1);}")
	// Of all calls and starts that may run.
	reported(t, putter+"func main(){o=new;q=new;go w(o);go w(q);q.l=2;}", "0-0 new0.l roots 1 2", "0-5 new1.l roots 1 0")
	reported(t, putter+"func main(){o=new;q=new;g=q;go w(o);q.l=2;return;w(q);}")
	reported(t, putter+"func f(p){f(p);w(p);}func main(){o=new;g=o;go f(o);o.l=2;}", "0-6 new0.l roots 1 0")
}

// TestP12Returned: what a function returns is held by what its calls assign it to.
func TestP12Returned(t *testing.T) {
	reported(t, putter+"func d(){x=new;return x;}func main(){o=d();go w(o);o.l=2;}", "0-5 new0.l roots 1 0")
	reported(t, putter+"func d(){x=new;return;}func main(){o=d();go w(o);o.l=2;}")
	reported(t, putter+"func d(){x=new;return 1;}func main(){o=d();go w(o);o.l=2;}")
	reported(t, putter+"func d(){x=new;}func main(){o=d();go w(o);o.l=2;}")
	reported(t, putter+"func d(){x=new;return;return x;}func main(){o=d();go w(o);o.l=2;}")
	reported(t, putter+"func d(){x=new;return x;}func main(){d();go w(o);o.l=2;}")
	// From one function into another, and by way of a parameter.
	reported(t, putter+"func d(p){return p;}func e(p){x=d(p);return x;}func main(){o=new;q=e(o);go w(q);q.l=2;}",
		"0-7 new0.l roots 1 0")
	// All that it returns anywhere.
	reported(t, putter+"func d(p){if p{return p;}x=new;return x;}func main(){o=new;q=d(o);go w(q);q.l=2;}",
		"0-8 new0.l roots 1 0")
	// What a thread's function returns is nobody's.
	reported(t, putter+"func d(){x=new;g=x;return x;}func main(){t=go d();t.l=2;o=t;go w(o);}")
}

// TestP12MayNotRun: what may not run assigns nothing.
func TestP12MayNotRun(t *testing.T) {
	reported(t, putter+"func main(){o=new;go w(o);y=x.l;x=o;}", "0-3 new0.l roots 1 0")
	reported(t, putter+"func main(){o=new;go w(o);y=x.l;return;x=o;}")
	reported(t, putter+"func main(){go w(o);o.l=2;return;o=new;}")
	reported(t, putter+"func f(p){p.l=2;}func main(){o=new;go w(o);f(0);return;f(o);}")
	reported(t, "var g;func w(){x=g;x.l=1;}func main(){o=new;go w();o.l=2;return;g=o;}")
	reported(t, "func w(p){x=p.r;x.l=1;}func main(){o=new;go w(o);o.l=2;return;o.r=o;}")
}

// TestP12Threads: a local may hold the threads of starts, and things beside them.
func TestP12Threads(t *testing.T) {
	const left = "0-4 var0 roots 1 0"
	reported(t, worker+"func main(){t=go w();u=t;join u;g=2;}")
	reported(t, worker+"func main(){t=go w();u=1;join u;g=2;}", left)
	reported(t, worker+"func main(){t=new;t=go w();join t;g=2;}")
	reported(t, worker+"func main(){h=t;t=go w();u=h;join u;g=2;}")
	reported(t, worker+"func z(){t=go w();return t;}func main(){t=z();join t;g=2;}")
	reported(t, worker+"func z(){t=go w();return;}func main(){t=z();join t;g=2;}", "0-5 var0 roots 1 0")
}

// TestP12Shared: by a variable, by an argument of a start, or by a field of something shared.
func TestP12Shared(t *testing.T) {
	// Made by both threads at one place, but no one else's.
	reported(t, "func w(){o=new;o.l=1;x=o.l;}func main(){go w();go w();w();}")
	reported(t, "func w(){o=new;o.l=1;o.r=o;x=o.r;x.l=2;}func main(){go w();go w();}")
	reported(t, "func f(p){p.l=1;}func w(){o=new;f(o);}func main(){go w();go w();}")
	reported(t, "func d(){x=new;return x;}func w(){o=d();o.l=1;}func main(){go w();w();}")
	// A variable holds it, whether someone loads it or not.
	reported(t, "var g;func w(){o=new;o.l=1;g=o;}func main(){go w();go w();}", "1-1 new0.l roots 1 2", "2-2 var0 roots 1 2")
	reported(t, "var g;func w(){o=new;o.l=1;g=1;}func main(){go w();go w();}", "2-2 var0 roots 1 2")
	// A start is handed it, not a call.
	reported(t, "func e(p){}func w(){o=new;o.l=1;go e(o);}func main(){go w();go w();}", "1-1 new0.l roots 2 3")
	reported(t, "func e(p){}func w(){o=new;o.l=1;e(o);}func main(){go w();go w();}")
	reported(t, "func e(p,q){}func w(){o=new;o.l=1;go e(1,o);}func main(){go w();go w();}", "1-1 new0.l roots 2 3")
	reported(t, "func e(p){}func w(){o=new;o.l=1;return;go e(o);}func main(){go w();go w();}")
	// What a called function is handed is not what the started one is handed.
	reported(t, putter+"func main(){o=new;go w(0);w(o);}")
	reported(t, putter+"func main(){q=new;o=new;go w(o);w(q);}", "0-0 new1.l roots 0 1")
}

// TestP12SharedByFields: what a field of something shared may hold, and so on.
func TestP12SharedByFields(t *testing.T) {
	reported(t, "var g;func w(){o=new;p=new;q=new;o.l=p;p.l=q;q.r=1;}func main(){go w();go w();}")
	reported(t, "var g;func w(){o=new;p=new;q=new;o.l=p;p.l=q;q.r=1;g=o;}func main(){go w();go w();}",
		"3-3 new0.l roots 1 2", "4-4 new1.l roots 1 2", "5-5 new2.r roots 1 2", "6-6 var0 roots 1 2")
	reported(t, "func e(p){}func w(){o=new;p=new;q=new;o.r=p;p.r=q;q.l=1;go e(o);}func main(){go w();go w();}",
		"3-3 new0.r roots 2 3", "4-4 new1.r roots 2 3", "5-5 new2.l roots 2 3")
	// A field of what is not shared shares nothing, though another field of it is held by something shared.
	reported(t, "var g;func w(){o=new;p=new;q=new;o.l=q;p.l=q;g=p;o.r=1;}func main(){go w();go w();}",
		"4-4 new1.l roots 1 2", "5-5 var0 roots 1 2")
}
