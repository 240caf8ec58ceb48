package races

import (
	"maps"
	"math"
	"runtime"
	"slices"
	"sync"
	"testing"

	"races/api"
)

// finds: a search of the machine tells just those races, as "0-2:3" for the pair 0, 2 behind 3 steps, rising, with whatever workers.
func finds(t *testing.T, m *Machine, depth int, want ...string) {
	t.Helper()
	for _, workers := range []int{1, 3, 8} {
		got := m.Search(depth, workers)
		if told := tellPairs(got); got == nil || !slices.Equal(told, want) {
			t.Errorf("depth %d, %d workers: found %v, want %v", depth, workers, told, want)
		}
	}
}

// behindSteps: a machine of the program behind steps of those threads, each digit one.
func behindSteps(t *testing.T, text, threads string) *Machine {
	t.Helper()
	m := started(t, text)
	order(t, m, threads)
	return m
}

func TestP10Examples(t *testing.T) {
	m := started(t, docW+"func main(){go w();g=2;}")
	finds(t, m, 4, "0-2:3")
	finds(t, m, 2)
	finds(t, m, 3, "0-2:3")
	order(t, m, "01")
	finds(t, m, 4, "0-2:1")
	finds(t, m, 0)
	finds(t, started(t, docW+"func main(){t=go w();join t;g=2;}"), 4)
}

// TestP10Depths: those below 0 are 0, those above 4 are 4.
func TestP10Depths(t *testing.T) {
	const text = "var g;var h;func w(){g=1;h=1;x=1;x=1;g=2;}func main(){go w();h=2;g=3;}"
	// At this point one race is there, one is 1 step on, and one 4 steps on.
	m := behindSteps(t, text, "0"+"11"+"0")
	there, near, far := "1-6:0", "0-7:1", "4-7:4"
	for _, depth := range []int{0, -1, -2, -5, -1 << 40, math.MinInt} {
		finds(t, m, depth, there)
	}
	for depth := 1; depth <= 3; depth++ {
		finds(t, m, depth, near, there)
	}
	for _, depth := range []int{4, 5, 6, 9, 1 << 40, math.MaxInt} {
		finds(t, m, depth, near, there, far)
	}
	// What is 5 steps on is not found, however deep the search is to be.
	m = behindSteps(t, text, "0"+"1"+"0")
	for _, depth := range []int{4, 5, 6, math.MaxInt} {
		finds(t, m, depth, "0-7:1", "1-6:1")
	}
}

// TestP10Workers: the answer does not hang on how many there are; those below 1 are 1, those above 8 are 8.
func TestP10Workers(t *testing.T) {
	all := []int{1, 0, -1, -8, math.MinInt, math.MaxInt, 1 << 40, 100}
	for w := 2; w < 12; w++ {
		all = append(all, w)
	}
	for _, text := range searched() {
		m := mustRead(t, text).Start()
		for k := range 8 {
			for depth := range 5 {
				want := m.Search(depth, 1)
				for _, w := range all {
					if got := m.Search(depth, w); !maps.Equal(got, want) {
						t.Fatalf("%q, step %d, depth %d: %v with %d workers, %v with one", text, k, depth, got, w, want)
					}
				}
			}
			m.Step(k)
		}
	}
}

// TestP10ThereAlready: such a race has 0, whenever it was made, and if it comes again, too.
func TestP10ThereAlready(t *testing.T) {
	m := started(t, "var g;func w(){while 1{g=1;}}func main(){go w();while 1{g=2;}}")
	order(t, m, "0"+"11"+"00")
	racesAre(t, m, "1-4:5")
	for depth := range 5 {
		finds(t, m, depth, "1-4:0")
	}
	order(t, m, "1111")
	finds(t, m, 4, "1-4:0")
	finds(t, m.Copy(), 4, "1-4:0")
}

// TestP10LeastSteps: of ways of different lengths the shortest counts, whichever thread goes it.
func TestP10LeastSteps(t *testing.T) {
	const declared = "var g;func f(){g=1;}func w(){x=1;f();}"
	for text, want := range map[string]string{
		declared + "func main(){go w();go f();g=2;}": "0-5:2",
		declared + "func main(){go f();go w();g=2;}": "0-5:2",
		declared + "func main(){go w();go w();g=2;}": "0-5:4",
		declared + "func main(){go w();x=1;g=2;}":    "0-5:4",
		declared + "func main(){x=1;go f();g=2;}":    "0-5:2",
		declared + "func main(){if 1{go f();}g=2;}":  "0-5:2",
	} {
		m := behindSteps(t, text, "00")
		if found := tellPairs(m.Search(4, 2)); !slices.Contains(found, want) {
			t.Errorf("%q: found %v, want %s", text, found, want)
		}
	}
	// Behind one of the short way's steps the long way would be shorter, had it been begun.
	m := behindSteps(t, declared+"func main(){go w();go f();g=2;}", "00")
	finds(t, m, 4, "0-0:4", "0-5:2")
	finds(t, m, 3, "0-5:2")
	order(t, m, "1")
	finds(t, m, 3, "0-0:3", "0-5:2")
	order(t, m, "1")
	finds(t, m, 3, "0-0:2", "0-5:2")
	order(t, m, "0")
	finds(t, m, 3, "0-0:2", "0-5:1")
}

// TestP10NoOneIsReady: there is nothing to come; what has raced is told.
func TestP10NoOneIsReady(t *testing.T) {
	m := behindSteps(t, writers, "01010")
	over(t, m)
	for _, depth := range []int{-1, 0, 1, 4, 5} {
		finds(t, m, depth, "0-2:0")
	}
	for _, text := range []string{"func main(){}", "mutex m;func main(){lock m;lock m;}", "func main(){x=y.l;}"} {
		m := started(t, text)
		m.Step(0)
		over(t, m)
		finds(t, m, 4)
	}
	// All wait for what never comes, with a race ahead if they did not.
	m = behindSteps(t, "var g;mutex m;func w(){lock m;g=1;}func main(){lock m;go w();lock m;g=2;}", "00")
	over(t, m)
	finds(t, m, 4)
}

// TestP10WhoIsReady: those that wait make no steps, and a way may end before the depth is reached.
func TestP10WhoIsReady(t *testing.T) {
	finds(t, behindSteps(t, "var g;mutex m;func w(){lock m;g=1;}func main(){go w();lock m;g=2;}", "0"), 4)
	m := behindSteps(t, "var g;mutex m;func w(){lock m;g=1;}func main(){go w();lock m;unlock m;g=2;}", "0")
	finds(t, m, 4)
	order(t, m, "0")
	finds(t, m, 3)
	finds(t, m, 4, "1-5:4")
	order(t, m, "0")
	finds(t, m, 3, "1-5:3")
	finds(t, behindSteps(t, "var g;func w(){g=1;}func main(){t=go w();join t;g=2;}", "0"), 4)
	// A step that fails is one; so is a function's end.
	const fails = "var g;func f(){x=y.l;}func w(){g=1;}func main(){go w();t=go f();join t;g=2;}"
	finds(t, behindSteps(t, fails, "00"), 4, "1-5:4")
	finds(t, behindSteps(t, fails, "00"), 3)
	finds(t, behindSteps(t, "var g;func f(){}func w(){g=1;}func main(){go w();f();g=2;}", "0"), 4, "0-3:4")
	finds(t, behindSteps(t, "var g;func f(){}func w(){g=1;}func main(){go w();f();g=2;}", "0"), 3)
	// What another is to wait for may never come: a failed thread's mutex stays held.
	finds(t, behindSteps(t, "var g;mutex m;func w(){lock m;x=y.l;}func main(){go w();lock m;g=2;}", "011"), 4)
}

// TestP10GoesOn: a machine goes on after searches as if there had been none, and so does what it was copied to.
func TestP10GoesOn(t *testing.T) {
	for turn := range 5 {
		m, n := started(t, rich), started(t, rich)
		for k := 0; len(n.Ready()) > 0; k++ {
			before := asked(m)
			c := m.Copy()
			m.Search(4, 1+k%8)
			c.Search(k%5, 3)
			if !slices.Equal(asked(m), before) || !slices.Equal(asked(c), before) {
				t.Fatalf("step %d: %v and %v behind a search, %v ahead of it", k, asked(m), asked(c), before)
			}
			if e, f := m.Step(k*turn), n.Step(k*turn); e != f {
				t.Fatalf("step %d: %s, but %s without searches", k, tell(e), tell(f))
			}
			if !slices.Equal(asked(m), asked(n)) {
				t.Fatalf("step %d: %v, but %v without searches", k, asked(m), asked(n))
			}
		}
		over(t, m)
	}
}

// searched: programs with much to be found.
func searched() []string {
	return []string{
		rich, writers,
		"var g;func w(){g=1;x=g;}func main(){go w();go w();g=2;go w();x=g;}",
		"var g;var h;mutex m;func w(){lock m;x=g;unlock m;h=x;}func main(){t=go w();g=1;go w();lock m;x=h;unlock m;join t;x=h;h=3;}",
		"func w(o){p=o.l;p.r=1;o.l=o;}func main(){o=new;p=new;o.l=p;go w(o);go w(p);x=o.l;x.r=4;x=p.r;}",
		"var g;func w(){while 1{g=1;go w();x=g;}}func main(){w();}",
		"var g;func f(n){if n{n=n-1;f(n);}g=n;}func main(){go f(2);go f(1);f(0);x=g;}",
	}
}

// ways notes the races of all rows of events that the machine can come to by at most so many steps, by the words of P9 and P10.
func ways(m *Machine, events []api.Event, steps, most int, found map[api.Pair]int) {
	for p := range racesOf(events) {
		if n, ok := found[p]; !ok || steps < n {
			found[p] = steps
		}
	}
	if steps == most {
		return
	}
	for c := range m.Ready() {
		next := m.Copy()
		e := next.Step(c)
		ways(next, append(slices.Clone(events), e), steps+1, most, found)
	}
}

// TestP10ByItsWords: at each point of runs, with each depth, the races of all ways from there.
func TestP10ByItsWords(t *testing.T) {
	seen := 0
	for _, text := range searched() {
		m := mustRead(t, text).Start()
		var events []api.Event
		for k := 0; k < 14 && len(m.Ready()) > 0; k++ {
			for depth := range 5 {
				want := map[api.Pair]int{}
				ways(m, events, 0, depth, want)
				if got := m.Search(depth, 1+k%8); !maps.Equal(got, want) {
					t.Fatalf("%q, step %d, depth %d: found %v, want %v", text, k, depth, tellPairs(got), tellPairs(want))
				}
				seen += len(want)
			}
			events = append(events, m.Step(k*k))
		}
	}
	if seen == 0 {
		t.Error("nothing is found: the programs are no test")
	}
}

// TestP10MapsAreTheCallers: what is written into an answer changes neither a later one nor the machine.
func TestP10MapsAreTheCallers(t *testing.T) {
	m := behindSteps(t, writers, "010")
	for _, depth := range []int{0, 4} {
		first, second := m.Search(depth, 2), m.Search(depth, 2)
		first[api.Pair{A: 7, B: 7}] = 7
		delete(first, api.Pair{A: 0, B: 2})
		if want := map[api.Pair]int{{A: 0, B: 2}: 0}; !maps.Equal(second, want) || !maps.Equal(m.Search(depth, 2), want) {
			t.Errorf("%v and %v, want %v", second, m.Search(depth, 2), want)
		}
		racesAre(t, m, "0-2:3")
	}
}

// TestP10WhileARunGoesOn: choose and see may search the machine that runs.
func TestP10WhileARunGoesOn(t *testing.T) {
	m := started(t, writers)
	var told []string
	search := func() { told = append(told, tellPairs(m.Search(4, 2))...) }
	m.Run(func(ready []int) int {
		search()
		return len(ready) - 1
	}, func(api.Event) bool {
		search()
		return true
	})
	want := []string{"0-2:3", "0-2:2", "0-2:2", "0-2:1", "0-2:1", "0-2:1", "0-2:1", "0-2:0", "0-2:0", "0-2:0"}
	if !slices.Equal(told, want) {
		t.Errorf("found %v, want %v", told, want)
	}
	racesAre(t, m, "0-2:4")
}

// TestP10SearchesAtATime: searches change nothing, so that several may look at one machine at a time.
func TestP10SearchesAtATime(t *testing.T) {
	m := behindSteps(t, searched()[2], "00")
	want := m.Search(4, 1)
	got := make([]map[api.Pair]int, 6)
	var done sync.WaitGroup
	for i := range got {
		done.Go(func() { got[i] = m.Search(4, i) })
	}
	done.Wait()
	for i, found := range got {
		if !maps.Equal(found, want) {
			t.Errorf("search %d: %v, want %v", i, found, want)
		}
	}
}

func TestP10NoGoroutineStays(t *testing.T) {
	before := runtime.NumGoroutine()
	for _, text := range searched() {
		m := behindSteps(t, text, "00")
		for workers := -1; workers < 10; workers++ {
			m.Search(3, workers)
		}
	}
	noMoreGoroutines(t, before)
}
