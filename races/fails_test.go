package races

import "testing"

// failsAt: main, alone, fails just behind so many steps, at the statement of that place, and nothing goes on.
func failsAt(t *testing.T, body string, steps int, place string) {
	t.Helper()
	m := started(t, "var v;mutex m;mutex n;func main(){"+body+"}")
	for i := range steps {
		if e := m.Step(0); e.Ended {
			t.Fatalf("%s it ends at step %d", body, i+1)
		}
	}
	alone(t, m, "0 faulty@"+place+" -1.0 0!")
	over(t, m)
}

func TestP7FailsOfNoNumbers(t *testing.T) {
	for _, op := range []string{"+", "-", "<"} {
		failsAt(t, "o=new;x=o"+op+"1;y=2;", 1, "1")
		failsAt(t, "o=new;x=1"+op+"o;y=2;", 1, "1")
		failsAt(t, "o=new;x=o"+op+"o;y=2;", 1, "1")
	}
	m := started(t, "func w(){}func main(){t=go w();x=t+1;}")
	order(t, m, "0")
	play(t, m, "0: 0 faulty@1 -1.0 0!", "0: 1 return@-1 -1.0 0!")
	over(t, m)
}

func TestP7FailsOfNoObject(t *testing.T) {
	failsAt(t, "x=y.l;", 0, "0")
	failsAt(t, "y=3;x=y.r;", 1, "1")
	failsAt(t, "y.l=1;", 0, "0")
	failsAt(t, "v=7;y=v;y.r=1;", 2, "2")
	failsAt(t, "o=new;x=o.l;x.r=1;", 2, "2")
	m := started(t, "func w(){}func main(){t=go w();t.l=1;}")
	order(t, m, "0")
	play(t, m, "0: 0 faulty@1 -1.0 0!")
}

func TestP7FailsOfNoThread(t *testing.T) {
	failsAt(t, "join x;", 0, "0")
	failsAt(t, "x=1;join x;", 1, "1")
	failsAt(t, "o=new;join o;", 1, "1")
}

func TestP7FailsOfNoLock(t *testing.T) {
	failsAt(t, "unlock m;", 0, "0")
	failsAt(t, "lock m;unlock n;", 1, "1")
	failsAt(t, "lock n;unlock n;unlock n;", 2, "2")
}

// TestP7UnlockOfAnothers: what another holds stays that one's, and so does what the one that failed holds.
func TestP7UnlockOfAnothers(t *testing.T) {
	m := started(t, "mutex m;mutex n;func w(){lock n;unlock m;}func main(){lock m;t=go w();join t;unlock m;lock n;}")
	order(t, m, "00")
	play(t, m, "0: 1 lock@0 -1.1 0", "0: 1 faulty@1 -1.0 0!", "0: 0 join@4 1.0 0", "0: 0 unlock@5 -1.0 0")
	over(t, m)
}

// TestP7UnlockByACallee: a mutex is a thread's, not a function's.
func TestP7UnlockByACallee(t *testing.T) {
	m := started(t, "mutex m;func l(){lock m;}func u(){unlock m;}func main(){l();u();l();}")
	alone(t, m, "0 call@2 -1.0 0", "0 lock@0 -1.0 0", "0 return@-1 -1.0 0",
		"0 call@3 -1.0 0", "0 unlock@1 -1.0 0", "0 return@-1 -1.0 0",
		"0 call@4 -1.0 0", "0 lock@0 -1.0 0", "0 return@-1 -1.0 0", "0 return@-1 -1.0 0!")
}

// TestP7FailsWithinCalls: not the function but the thread has ended.
func TestP7FailsWithinCalls(t *testing.T) {
	m := started(t, "func f(){x=y.l;}func w(){f();x=1;}func main(){t=go w();join t;x=2;}")
	order(t, m, "0")
	alone(t, m, "1 call@1 -1.0 0", "1 faulty@0 -1.0 0!", "0 join@4 1.0 0", "0 set@5 -1.0 2", "0 return@-1 -1.0 0!")
	over(t, m)
}

// TestP7SeventhThread: six have been started, main among them, though others have ended.
func TestP7SeventhThread(t *testing.T) {
	m := started(t, "func w(){}func main(){while 1{t=go w();join t;}}")
	for range 5 {
		order(t, m, "00")
		stepAs(t, m, m.Threads()-1)
		order(t, m, "0")
	}
	counts(t, m, 6, 0)
	alone(t, m, "0 while@0 -1.0 1", "0 faulty@1 -1.0 0!")
	over(t, m)
	counts(t, m, 6, 0)
}

// TestP7SeventhThreadByAnother: it is the machine's threads that are counted, whoever starts them.
func TestP7SeventhThreadByAnother(t *testing.T) {
	m := started(t, "func w(){go x();}func x(){}func main(){go w();go w();go w();go w();x();}")
	order(t, m, "0000")
	play(t, m, "1: 1 go@0 5.0 0", "2: 2 faulty@0 -1.0 0!", "0: 0 call@5 -1.0 0", "-3: 3 faulty@0 -1.0 0!")
	counts(t, m, 6, 0)
}

func TestP7NinthObject(t *testing.T) {
	m := started(t, "func main(){while 1{o=new;}}")
	for i := range 8 {
		n := string(rune('0' + i))
		alone(t, m, "0 while@0 -1.0 1", "0 new@1 "+n+".0 o"+n)
	}
	counts(t, m, 1, 8)
	alone(t, m, "0 while@0 -1.0 1", "0 faulty@1 -1.0 0!")
	over(t, m)
	counts(t, m, 1, 8)
}

// TestP7SeventhFunction: six at a time go, in each thread.
func TestP7SeventhFunction(t *testing.T) {
	m := started(t, "func f(){f();}func main(){go f();f();}")
	order(t, m, "0")
	for i := range 5 {
		if got := tell(stepAs(t, m, 0)); got != "0 call@"+string("20000"[i])+" -1.0 0" {
			t.Fatalf("call %d of main: %s", i, got)
		}
		if got := tell(stepAs(t, m, 1)); got != "1 call@0 -1.0 0" {
			t.Fatalf("call %d of the other: %s", i, got)
		}
	}
	play(t, m, "0: 0 faulty@0 -1.0 0!", "0: 1 faulty@0 -1.0 0!")
	over(t, m)
}

// TestP7SixFunctions: those that have returned do not count.
func TestP7SixFunctions(t *testing.T) {
	const text = "func f(n){if n{n=n-1;f(n);f(0);}}func main(){f(4);f(4);f(5);}"
	m := started(t, text)
	events := runAlone(m)
	// With its call f(0) takes three steps, and f(n) seven more than the one below it.
	if want := 2*(3+4*7) + 1 + 5*3; len(events) != want {
		t.Fatalf("%d steps, want %d", len(events), want)
	}
	if got := tell(events[len(events)-1]); got != "0 faulty@2 -1.0 0!" {
		t.Errorf("at last %s", got)
	}
}
