package races

import (
	"fmt"
	"slices"
	"testing"

	"races/api"
)

const writers = "var g;func w(){g=1;}func main(){go w();g=2;}"

// yes: a see that never stops.
func yes(api.Event) bool { return true }

func TestP8Run(t *testing.T) {
	m := started(t, writers)
	var lists, events []string
	steps := m.Run(func(ready []int) int {
		lists = append(lists, fmt.Sprint(ready))
		return len(lists)
	}, func(e api.Event) bool {
		events = append(events, tell(e))
		return true
	})
	if want := []string{"[0]", "[0 1]", "[0 1]", "[0 1]", "[1]"}; steps != 5 || !slices.Equal(lists, want) {
		t.Errorf("%d steps, choose was asked with %v, want %v", steps, lists, want)
	}
	want := []string{"0 go@1 1.0 0", "0 store@2 -1.0 2", "1 store@0 -1.0 1", "0 return@-1 -1.0 0!", "1 return@-1 -1.0 0!"}
	if !slices.Equal(events, want) {
		t.Errorf("see was told %v, want %v", events, want)
	}
}

// TestP8RunIsSteps: a run does what the same choices do one by one; each list is who was ready then.
func TestP8RunIsSteps(t *testing.T) {
	for _, factor := range []int{0, 1, 2, 5, -1, -3} {
		m, n := started(t, rich), started(t, rich)
		k := 0
		steps := m.Run(func(ready []int) int {
			if !slices.Equal(ready, n.Ready()) || !slices.Equal(ready, m.Ready()) {
				t.Fatalf("step %d: asked with %v, ready are %v", k, ready, n.Ready())
			}
			return k * factor
		}, func(e api.Event) bool {
			if f := n.Step(k * factor); e != f {
				t.Fatalf("step %d: told %s, want %s", k, tell(e), tell(f))
			}
			if !slices.Equal(asked(m), asked(n)) {
				t.Fatalf("step %d: %v, want %v", k, asked(m), asked(n))
			}
			k++
			return true
		})
		if steps != k || steps == 0 {
			t.Errorf("%d steps, want %d", steps, k)
		}
		over(t, m)
		over(t, n)
	}
}

// TestP8SeeStops: the step of which see says no has been made; a run goes on from there.
func TestP8SeeStops(t *testing.T) {
	for stop := 1; stop <= 5; stop++ {
		m := started(t, writers)
		n := 0
		first := m.Run(func([]int) int { return 0 }, func(api.Event) bool {
			n++
			return n < stop
		})
		second := m.Run(func([]int) int { return 0 }, yes)
		if first != stop || n != stop || first+second != 5 {
			t.Errorf("%d steps, %d told, then %d; want %d and %d", first, n, second, stop, 5-stop)
		}
		over(t, m)
	}
}

// TestP8SeeStopsWhatNeverEnds: no is heard of a program that goes on for ever.
func TestP8SeeStopsWhatNeverEnds(t *testing.T) {
	m := started(t, "func main(){while 1{x=x+1;}}")
	n := 0
	steps := m.Run(func([]int) int { return n }, func(api.Event) bool {
		n++
		return n < 10000
	})
	if steps != 10000 {
		t.Errorf("%d steps", steps)
	}
	readyAre(t, m, 0)
}

// TestP8NoOneIsReady: no one is asked, and nothing told.
func TestP8NoOneIsReady(t *testing.T) {
	for _, text := range []string{"func main(){}", "mutex m;func main(){lock m;lock m;}", "func main(){x=y.l;}"} {
		m := started(t, text)
		m.Step(0)
		steps := m.Run(func([]int) int {
			t.Errorf("%q: choose is asked", text)
			return 0
		}, func(e api.Event) bool {
			t.Errorf("%q: see is told %s", text, tell(e))
			return true
		})
		if steps != 0 {
			t.Errorf("%q: %d steps", text, steps)
		}
	}
}

// TestP8EndsInTheMidst: a run ends when all wait for what never comes.
func TestP8EndsInTheMidst(t *testing.T) {
	m := started(t, "mutex m;mutex n;func w(){lock n;lock m;}func main(){go w();lock m;lock n;}")
	steps := m.Run(func(ready []int) int { return len(ready) - 1 }, yes)
	if steps != 4 {
		t.Errorf("%d steps, want 4: the other ends with both", steps)
	}
	over(t, m)
	m = started(t, "mutex m;mutex n;func w(){lock n;lock m;}func main(){go w();lock m;lock n;}")
	order(t, m, "00")
	if steps := m.Run(func(ready []int) int { return 1 }, yes); steps != 1 {
		t.Errorf("%d steps, want 1: each holds what the other wants", steps)
	}
	over(t, m)
}

// TestP8ListsAreFresh: choose may write into its list and keep it.
func TestP8ListsAreFresh(t *testing.T) {
	m := started(t, writers)
	var kept [][]int
	m.Run(func(ready []int) int {
		kept = append(kept, ready)
		whole := ready[:cap(ready)]
		for i := range whole {
			whole[i] = len(kept) * 100
		}
		return 0
	}, func(e api.Event) bool {
		for i, l := range kept {
			for _, n := range l[:cap(l)] {
				if n != (i+1)*100 {
					t.Fatalf("list %d has changed: %v", i, l)
				}
			}
		}
		return true
	})
	if len(kept) != 5 {
		t.Errorf("%d lists", len(kept))
	}
}

// TestP8ChoosePicks: its answers pick as Step's numbers do.
func TestP8ChoosePicks(t *testing.T) {
	for c, want := range map[int]int{0: 0, 1: 1, 2: 2, 3: 0, -1: 0, -2: 1, -3: 2, -4: 0} {
		m := started(t, "func w(){x=1;}func main(){go w();go w();}")
		order(t, m, "00")
		m.Run(func([]int) int { return c }, func(e api.Event) bool {
			if e.Thread != want {
				t.Errorf("%d picks thread %d, want %d", c, e.Thread, want)
			}
			return false
		})
	}
}

// TestP8Asking: while a run goes on its machine can be asked anything.
func TestP8Asking(t *testing.T) {
	m := started(t, rich)
	ask := func() {
		asked(m)
		m.Copy().Step(1)
		m.Search(1, 2)
	}
	k := 0
	m.Run(func([]int) int {
		ask()
		k++
		return k
	}, func(api.Event) bool {
		ask()
		return true
	})
	over(t, m)
}
