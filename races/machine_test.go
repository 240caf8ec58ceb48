package races

import "testing"

func TestP6Start(t *testing.T) {
	m := started(t, "func w(){y=2;}func main(){x=1;}")
	readyAre(t, m, 0)
	counts(t, m, 1, 0)
	alone(t, m, "0 set@1 -1.0 1", "0 return@-1 -1.0 0!")
	over(t, m)
	counts(t, m, 1, 0)
}

// TestP6StartOfNothing: where main has no statement its end is a step still.
func TestP6StartOfNothing(t *testing.T) {
	m := started(t, "func main(){}")
	readyAre(t, m, 0)
	alone(t, m, "0 return@-1 -1.0 0!")
	over(t, m)
}

// TestP6StartAgain: each machine of a program is its own.
func TestP6StartAgain(t *testing.T) {
	p := mustRead(t, "var v;func main(){x=v;v=1;o=new;}")
	for range 2 {
		m := p.Start()
		counts(t, m, 1, 0)
		alone(t, m, "0 load@0 -1.0 0", "0 store@1 -1.0 1", "0 new@2 0.0 o0")
	}
}

func TestP6AllIsNoughtAtFirst(t *testing.T) {
	m := started(t, "var v;var w;func f(a){y=a;a=z;z=7;}func main(){x=w;x=y;o=new;x=o.l;x=o.r;f(3);f(4);}")
	alone(t, m,
		"0 load@3 -1.1 0", "0 set@4 -1.0 0",
		"0 new@5 0.0 o0", "0 get@6 0.0 0", "0 get@7 0.1 0",
		"0 call@8 -1.0 0", "0 set@0 -1.0 3", "0 set@1 -1.0 0", "0 set@2 -1.0 7", "0 return@-1 -1.0 0",
		// The locals of a function are 0 each time that it begins.
		"0 call@9 -1.0 0", "0 set@0 -1.0 4", "0 set@1 -1.0 0", "0 set@2 -1.0 7", "0 return@-1 -1.0 0",
		"0 return@-1 -1.0 0!")
	over(t, m)
}

func TestP6ReadyWithLocks(t *testing.T) {
	m := started(t, "mutex n;mutex m;func w(){lock m;unlock m;}func main(){go w();lock m;lock n;unlock m;}")
	order(t, m, "0")
	readyAre(t, m, 0, 1)
	order(t, m, "0")
	readyAre(t, m, 0)
	order(t, m, "0")
	readyAre(t, m, 0)
	order(t, m, "0")
	readyAre(t, m, 0, 1)
	order(t, m, "1")
	readyAre(t, m, 0, 1)
	order(t, m, "10")
	readyAre(t, m, 1)
	order(t, m, "1")
	over(t, m)
}

// TestP6OwnLock: a mutex that is held is not locked again, not even by the one that holds it.
func TestP6OwnLock(t *testing.T) {
	m := started(t, "mutex m;func main(){lock m;lock m;}")
	alone(t, m, "0 lock@0 -1.0 0")
	over(t, m)
}

// TestP6LockOfTheEnded: a thread that has ended holds what it held.
func TestP6LockOfTheEnded(t *testing.T) {
	m := started(t, "mutex m;func w(){lock m;}func main(){t=go w();join t;lock m;}")
	order(t, m, "0110")
	over(t, m)
}

func TestP6ReadyWithJoins(t *testing.T) {
	m := started(t, "func w(){x=1;}func main(){t=go w();u=go w();join u;join t;join t;}")
	order(t, m, "00")
	readyAre(t, m, 1, 2)
	order(t, m, "11")
	readyAre(t, m, 2)
	order(t, m, "2")
	readyAre(t, m, 2)
	order(t, m, "2")
	readyAre(t, m, 0)
	play(t, m, "0: 0 join@3 2.0 0", "0: 0 join@4 1.0 0", "0: 0 join@5 1.0 0", "0: 0 return@-1 -1.0 0!")
	over(t, m)
}

// TestP6OwnJoin: a thread that joins itself has not ended, and never will.
func TestP6OwnJoin(t *testing.T) {
	m := started(t, "var v;func w(){t=v;join t;}func main(){t=go w();v=t;}")
	order(t, m, "0010")
	over(t, m)
	counts(t, m, 2, 0)
}

// TestP6JoinOfNoThread: what is no thread is not waited for.
func TestP6JoinOfNoThread(t *testing.T) {
	m := started(t, "func w(){join x;}func main(){go w();o=new;join o;}")
	order(t, m, "00")
	readyAre(t, m, 0, 1)
	play(t, m, "1: 1 faulty@0 -1.0 0!", "0: 0 faulty@3 -1.0 0!")
	over(t, m)
}

// TestP6LooksAtTheInnermost: what a function waits for counts, not what the one that called it is at.
func TestP6LooksAtTheInnermost(t *testing.T) {
	m := started(t, "mutex m;func f(){lock m;}func main(){f();f();x=1;}")
	order(t, m, "0000")
	over(t, m)
}

func TestP6Counts(t *testing.T) {
	m := started(t, "func w(){o=new;}func main(){go w();go w();o=new;}")
	for i, want := range [][2]int{{2, 0}, {3, 0}, {3, 1}, {3, 1}, {3, 2}, {3, 2}, {3, 3}, {3, 3}} {
		order(t, m, string("00001122"[i]))
		counts(t, m, want[0], want[1])
	}
	over(t, m)
}
