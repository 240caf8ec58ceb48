package races

import (
	"math"
	"strconv"
	"testing"

	"races/api"
)

// TestP7Picks: of three that are ready.
func TestP7Picks(t *testing.T) {
	m := started(t, "func w(){x=1;}func main(){go w();go w();}")
	order(t, m, "00")
	readyAre(t, m, 0, 1, 2)
	for c, want := range map[int]int{
		0: 0, 1: 1, 2: 2, 3: 0, 4: 1, 300: 0, 302: 2,
		-1: 0, -2: 1, -3: 2, -4: 0, -5: 1, -302: 1,
		math.MaxInt: math.MaxInt % 3, math.MinInt: math.MaxInt % 3, math.MinInt + 1: (math.MaxInt - 1) % 3,
	} {
		if e := m.Copy().Step(c); e.Thread != want {
			t.Errorf("%d picks thread %d, want %d", c, e.Thread, want)
		}
	}
}

// TestP7PicksOfTheReady: those that are not ready are not counted.
func TestP7PicksOfTheReady(t *testing.T) {
	m := started(t, "func w(){x=1;}func main(){t=go w();u=go w();join u;}")
	order(t, m, "00")
	readyAre(t, m, 1, 2)
	play(t, m, "3: 2 set@0 -1.0 1", "-1: 1 set@0 -1.0 1", "-2: 2 return@-1 -1.0 0!", "0: 0 join@3 2.0 0")
}

func TestP7NoOneIsReady(t *testing.T) {
	for _, text := range []string{"func main(){}", "mutex m;func main(){lock m;lock m;}", "func main(){join x;}"} {
		m := started(t, text)
		m.Step(0)
		over(t, m)
		for _, c := range []int{0, 1, -1, 7, math.MaxInt, math.MinInt} {
			if e := m.Step(c); e != (api.Event{Val: api.Number(0)}) {
				t.Errorf("%q: %v though no one is ready", text, e)
			}
		}
		over(t, m)
	}
}

func TestP7EventsOfMemory(t *testing.T) {
	m := started(t, "var v;mutex k;var w;mutex m;func main(){x=5;y=x;w=x;y=w;v=o;o=new;p=new;p.r=x;p.l=o;y=p.r;y=p.l;y=p;v=p;z=v;}")
	alone(t, m,
		"0 set@0 -1.0 5", "0 set@1 -1.0 5",
		"0 store@2 -1.1 5", "0 load@3 -1.1 5", "0 store@4 -1.0 0",
		"0 new@5 0.0 o0", "0 new@6 1.0 o1",
		"0 put@7 1.1 5", "0 put@8 1.0 o0", "0 get@9 1.1 5", "0 get@10 1.0 o0",
		"0 set@11 -1.0 o1", "0 store@12 -1.0 o1", "0 load@13 -1.0 o1",
		"0 return@-1 -1.0 0!")
	over(t, m)
	counts(t, m, 1, 2)
}

func TestP7EventsOfThreads(t *testing.T) {
	m := started(t, "mutex k;mutex m;func w(a){return a;}func main(){lock m;t=go w(9);go w(t);unlock m;lock k;x=t;join t;}")
	alone(t, m, "0 lock@1 -1.1 0", "0 go@2 1.0 0")
	play(t, m,
		"0: 0 go@3 2.0 0", "0: 0 unlock@4 -1.1 0", "0: 0 lock@5 -1.0 0", "0: 0 set@6 -1.0 t1",
		"0: 1 return@0 -1.0 9!", "1: 2 return@0 -1.0 t1!", "0: 0 join@7 1.0 0", "0: 0 return@-1 -1.0 0!")
	over(t, m)
}

func TestP7Sums(t *testing.T) {
	for body, want := range map[string]string{
		"x=2+3;": "5", "x=2-3;": "-1", "x=0+0;": "0", "x=999999+1;": "1000000",
		"x=3<3;": "0", "x=2<3;": "1", "x=4<3;": "0",
		"x=3==3;": "1", "x=3==4;": "0", "x=y==0;": "1", "x=007==7;": "1",
	} {
		if got := last(t, body, 1); got != "0 set@0 -1.0 "+want {
			t.Errorf("%s %s, want %s", body, got, want)
		}
	}
	for body, want := range map[string]string{
		"y=0-5;x=y<0;": "1", "y=0-5;x=0<y;": "0", "y=0-5;x=y+y;": "-10", "y=0-5;x=y-y;": "0", "y=4;y=y-1;": "3",
		"o=new;x=o==o;": "1", "o=new;x=o==0;": "0", "o=new;x=0==o;": "0", "t=go w();x=t==t;": "1", "t=go w();x=t==1;": "0",
	} {
		if got := last(t, body, 2); got != "0 set@1 -1.0 "+want {
			t.Errorf("%s %s, want %s", body, got, want)
		}
	}
	for body, want := range map[string]string{
		"o=new;p=new;x=o==p;": "0", "o=new;p=o;x=o==p;": "1", "t=go w();u=go w();x=t==u;": "0",
		// Numbers that are alike do not make things alike.
		"o=new;t=go w();x=o==t;": "0", "t=go w();u=t;x=u==t;": "1",
	} {
		if got := last(t, body, 3); got != "0 set@2 -1.0 "+want {
			t.Errorf("%s %s, want %s", body, got, want)
		}
	}
	if got := last(t, "o=new;o=new;t=go w();x=o==t;", 4); got != "0 set@3 -1.0 0" {
		t.Errorf("an object and a thread of one number: %s", got)
	}
}

// TestP7AroundAndAround: numbers have 64 bits.
func TestP7AroundAndAround(t *testing.T) {
	m := started(t, "func main(){x=1;while 1{x=x+x;y=x-1;z=y<x;}}")
	alone(t, m, "0 set@0 -1.0 1")
	x := int64(1)
	for range 66 {
		x += x
		less := "1"
		if x-1 > x {
			less = "0"
		}
		alone(t, m,
			"0 while@1 -1.0 1",
			"0 set@2 -1.0 "+strconv.FormatInt(x, 10),
			"0 set@3 -1.0 "+strconv.FormatInt(x-1, 10),
			"0 set@4 -1.0 "+less)
	}
	if x != 0 {
		t.Errorf("%d, want 0: the test goes not around", x)
	}
}

func TestP7If(t *testing.T) {
	const behind = "0 set@3 -1.0 3"
	for text, want := range map[string][]string{
		"if 1{x=1;}else{x=2;}x=3;":   {"0 if@0 -1.0 1", "0 set@1 -1.0 1", behind},
		"if 0{x=1;}else{x=2;}x=3;":   {"0 if@0 -1.0 0", "0 set@2 -1.0 2", behind},
		"if y{x=1;x=2;}x=3;":         {"0 if@0 -1.0 0", behind},
		"if 9{x=1;x=2;}x=3;":         {"0 if@0 -1.0 9", "0 set@1 -1.0 1", "0 set@2 -1.0 2", behind},
		"if 1{}else{x=1;x=2;}x=3;":   {"0 if@0 -1.0 1", behind},
		"if 0{x=1;x=2;}else{}x=3;":   {"0 if@0 -1.0 0", behind},
		"if 1{if 0{}}if 1{}x=3;":     {"0 if@0 -1.0 1", "0 if@1 -1.0 0", "0 if@2 -1.0 1", behind},
		"if 1{if 1{x=1;}}x=3;":       {"0 if@0 -1.0 1", "0 if@1 -1.0 1", "0 set@2 -1.0 1", behind},
		"o=new;if o{}else{x=1;}x=3;": {"0 new@0 0.0 o0", "0 if@1 -1.0 o0", behind},
	} {
		m := started(t, "func main(){"+text+"}")
		alone(t, m, append(want, "0 return@-1 -1.0 0!")...)
		over(t, m)
	}
}

// TestP7AllButNoughtHolds: a number below 0, an object, a thread, even those of number 0.
func TestP7AllButNoughtHolds(t *testing.T) {
	for body, want := range map[string]string{
		"y=0-1;if y{x=1;}":    "-1",
		"y=new;if y{x=1;}":    "o0",
		"y=go w();if y{x=1;}": "t1",
	} {
		if got := last(t, body, 2); got != "0 if@1 -1.0 "+want {
			t.Errorf("%s %s", body, got)
		}
		if got := last(t, body, 3); got != "0 set@2 -1.0 1" {
			t.Errorf("%s it does not hold: %s", body, got)
		}
	}
}

// TestP7While: each test is a step, the way back to it is none.
func TestP7While(t *testing.T) {
	m := started(t, "func main(){i=2;while i{i=i-1;j=1;while j{j=0;}}x=3;}")
	round := []string{"0 set@3 -1.0 1", "0 while@4 -1.0 1", "0 set@5 -1.0 0", "0 while@4 -1.0 0"}
	alone(t, m, "0 set@0 -1.0 2", "0 while@1 -1.0 2", "0 set@2 -1.0 1")
	alone(t, m, round...)
	alone(t, m, "0 while@1 -1.0 1", "0 set@2 -1.0 0")
	alone(t, m, round...)
	alone(t, m, "0 while@1 -1.0 0", "0 set@6 -1.0 3", "0 return@-1 -1.0 0!")
	over(t, m)
}

func TestP7WhileWithoutStatements(t *testing.T) {
	m := started(t, "func main(){while 1{}}")
	for range 100 {
		alone(t, m, "0 while@0 -1.0 1")
	}
	m = started(t, "func main(){while 0{}}")
	alone(t, m, "0 while@0 -1.0 0", "0 return@-1 -1.0 0!")
}

// TestP7WhileAroundIf: behind an if that ends a block comes the test around it, whichever way it went.
func TestP7WhileAroundIf(t *testing.T) {
	m := started(t, "func main(){while 1{if x{x=0;}else{x=1;}}}")
	for range 3 {
		alone(t, m,
			"0 while@0 -1.0 1", "0 if@1 -1.0 0", "0 set@3 -1.0 1",
			"0 while@0 -1.0 1", "0 if@1 -1.0 1", "0 set@2 -1.0 0")
	}
}

func TestP7Calls(t *testing.T) {
	m := started(t, "func f(a,b,c){x=a-b;return x;}func g(){return;}func h(){}func main(){x=7;y=f(x,2,1);x=y;x=g();y=9;y=h();f(1,1,1);x=y;}")
	alone(t, m,
		"0 set@3 -1.0 7",
		"0 call@4 -1.0 0", "0 set@0 -1.0 5", "0 return@1 -1.0 5", "0 set@5 -1.0 5",
		"0 call@6 -1.0 0", "0 return@2 -1.0 0",
		"0 set@7 -1.0 9", "0 call@8 -1.0 0", "0 return@-1 -1.0 0",
		"0 call@9 -1.0 0", "0 set@0 -1.0 0", "0 return@1 -1.0 0",
		"0 set@10 -1.0 0", "0 return@-1 -1.0 0!")
	over(t, m)
}

// TestP7CallsAssignBehindTheirReturn: and 0, too, over what was there.
func TestP7CallsAssignBehindTheirReturn(t *testing.T) {
	m := started(t, "func g(){return;}func h(a){a=a+1;}func main(){x=8;x=h(x);y=x;z=4;z=g();y=z;}")
	alone(t, m,
		"0 set@2 -1.0 8", "0 call@3 -1.0 0", "0 set@1 -1.0 9", "0 return@-1 -1.0 0", "0 set@4 -1.0 0",
		"0 set@5 -1.0 4", "0 call@6 -1.0 0", "0 return@0 -1.0 0", "0 set@7 -1.0 0", "0 return@-1 -1.0 0!")
}

// TestP7Recursion: each function that goes on has locals of its own; a return leaves the innermost from within any block.
func TestP7Recursion(t *testing.T) {
	m := started(t, "func f(n){while 1{if n{m=n-1;x=f(m);x=x+n;return x;}return 0;}}func main(){x=f(2);y=x;}")
	down := func(n string) []string { return []string{"0 while@0 -1.0 1", "0 if@1 -1.0 " + n} }
	alone(t, m, "0 call@7 -1.0 0")
	alone(t, m, down("2")...)
	alone(t, m, "0 set@2 -1.0 1", "0 call@3 -1.0 0")
	alone(t, m, down("1")...)
	alone(t, m, "0 set@2 -1.0 0", "0 call@3 -1.0 0")
	alone(t, m, down("0")...)
	alone(t, m, "0 return@6 -1.0 0",
		"0 set@4 -1.0 1", "0 return@5 -1.0 1",
		"0 set@4 -1.0 3", "0 return@5 -1.0 3",
		"0 set@8 -1.0 3", "0 return@-1 -1.0 0!")
	over(t, m)
}

// TestP7CallsWithinBlocks: behind a call that ends a block its function goes on where the block does.
func TestP7CallsWithinBlocks(t *testing.T) {
	m := started(t, "func f(){}func main(){i=1;while i{i=0;if 1{f();}}f();}")
	alone(t, m, "0 set@0 -1.0 1", "0 while@1 -1.0 1", "0 set@2 -1.0 0", "0 if@3 -1.0 1",
		"0 call@4 -1.0 0", "0 return@-1 -1.0 0", "0 while@1 -1.0 0",
		"0 call@5 -1.0 0", "0 return@-1 -1.0 0", "0 return@-1 -1.0 0!")
}

// TestP7Ends: a thread ends with the function in which it began, by whatever return; what it has started goes on.
func TestP7Ends(t *testing.T) {
	m := started(t, "func f(){return 3;}func w(){x=f();return x;y=1;}func main(){go w();if 1{return;}x=1;}")
	order(t, m, "0")
	play(t, m,
		"0: 0 if@5 -1.0 1", "0: 0 return@6 -1.0 0!",
		"0: 1 call@1 -1.0 0", "0: 1 return@0 -1.0 3", "0: 1 return@2 -1.0 3!")
	over(t, m)
}

func TestP7StartsTakeArguments(t *testing.T) {
	m := started(t, "func w(a,b){x=a;x=b;x=c;}func main(){o=new;y=4;go w(y,o);y=5;go main();}")
	order(t, m, "00000")
	play(t, m, "1: 1 set@0 -1.0 4", "1: 1 set@1 -1.0 o0", "1: 1 set@2 -1.0 0", "1: 1 return@-1 -1.0 0!", "1: 2 new@3 1.0 o1")
	counts(t, m, 3, 2)
}

// TestP7Locals: threads in one function have each their own; variables and fields are everyone's.
func TestP7Locals(t *testing.T) {
	m := started(t, "var v;func w(a,o){x=a;y=v;v=a;z=o.r;o.r=a;z=x;}func main(){o=new;go w(1,o);go w(2,o);}")
	order(t, m, "000")
	play(t, m,
		"1: 1 set@0 -1.0 1", "2: 2 set@0 -1.0 2",
		"1: 1 load@1 -1.0 0", "1: 1 store@2 -1.0 1", "2: 2 load@1 -1.0 1", "2: 2 store@2 -1.0 2",
		"1: 1 get@3 0.1 0", "1: 1 put@4 0.1 1", "2: 2 get@3 0.1 1", "2: 2 put@4 0.1 2",
		"1: 1 set@5 -1.0 1", "2: 2 set@5 -1.0 2")
}

func TestP7UnlockAndLockAgain(t *testing.T) {
	m := started(t, "mutex m;func w(){lock m;unlock m;}func main(){lock m;unlock m;go w();lock m;}")
	play(t, m, "0: 0 lock@2 -1.0 0", "0: 0 unlock@3 -1.0 0", "0: 0 go@4 1.0 0",
		"1: 1 lock@0 -1.0 0", "0: 1 unlock@1 -1.0 0", "0: 0 lock@5 -1.0 0", "0: 0 return@-1 -1.0 0!", "0: 1 return@-1 -1.0 0!")
}
