package races

import (
	"fmt"
	"slices"
	"strconv"
	"strings"
	"testing"

	"races/api"
)

// started: a machine of that program at its start.
func started(t *testing.T, text string) *Machine {
	t.Helper()
	return mustRead(t, text).Start()
}

// tell: an event as text: its thread, kind and place, object and field, value; a ! if the thread has ended.
func tell(e api.Event) string {
	kinds := strings.Fields("none set load store get put new go join lock unlock call return if while faulty")
	s := fmt.Sprintf("%d %s@%d %d.%d %s", e.Thread, kinds[e.Kind], e.Place, e.Obj, e.Field, tellValue(e.Val))
	if e.Ended {
		s += "!"
	}
	return s
}

func tellValue(v api.Value) string {
	switch v := v.(type) {
	case api.Number:
		return strconv.Itoa(int(v))
	case api.Object:
		return "o" + strconv.Itoa(int(v))
	case api.Thread:
		return "t" + strconv.Itoa(int(v))
	}
	return "no value"
}

// play makes steps. A line is a choice and the event that it must make, as "0: 0 set@0 -1.0 1".
func play(t *testing.T, m *Machine, lines ...string) {
	t.Helper()
	for i, l := range lines {
		choice, want, _ := strings.Cut(l, ": ")
		c, err := strconv.Atoi(choice)
		if err != nil {
			t.Fatalf("line %d, %q: no choice", i, l)
		}
		if got := tell(m.Step(c)); got != want {
			t.Fatalf("line %d: %s, want %s", i, got, want)
		}
	}
}

// alone makes as many steps as events are named, of a machine of which just one thread is ready at a time.
func alone(t *testing.T, m *Machine, events ...string) {
	t.Helper()
	for i, want := range events {
		if r := m.Ready(); len(r) != 1 {
			t.Fatalf("event %d: ready are %v", i, r)
		}
		if got := tell(m.Step(i)); got != want {
			t.Fatalf("event %d: %s, want %s", i, got, want)
		}
	}
}

// over: no thread is ready.
func over(t *testing.T, m *Machine) {
	t.Helper()
	readyAre(t, m)
}

func readyAre(t *testing.T, m *Machine, want ...int) {
	t.Helper()
	got := m.Ready()
	if !slices.Equal(got, want) {
		t.Fatalf("ready are %v, want %v", got, want)
	}
	if len(want) == 0 && got != nil {
		t.Fatalf("no one is ready, but the list is not nil")
	}
}

// counts: so many threads have been started, so many objects made.
func counts(t *testing.T, m *Machine, threads, objects int) {
	t.Helper()
	if m.Threads() != threads || m.Objects() != objects {
		t.Fatalf("%d threads and %d objects, want %d and %d", m.Threads(), m.Objects(), threads, objects)
	}
}

// stepAs: that thread, which is ready, makes a step.
func stepAs(t *testing.T, m *Machine, thread int) api.Event {
	t.Helper()
	i := slices.Index(m.Ready(), thread)
	if i < 0 {
		t.Fatalf("thread %d is not ready", thread)
	}
	e := m.Step(i)
	if e.Thread != thread {
		t.Fatalf("thread %d made the step, want %d", e.Thread, thread)
	}
	return e
}

// order: threads make steps in that order, each digit one.
func order(t *testing.T, m *Machine, threads string) {
	t.Helper()
	for _, c := range threads {
		stepAs(t, m, int(c-'0'))
	}
}

// racesAre: the machine's races, as "0-2:4" for the pair 0, 2 that step 4 has made, rising.
func racesAre(t *testing.T, m *Machine, want ...string) {
	t.Helper()
	if got := tellPairs(m.Races()); !slices.Equal(got, want) {
		t.Fatalf("races %v, want %v", got, want)
	}
}

func tellPairs(m map[api.Pair]int) []string {
	var pairs []api.Pair
	for p := range m {
		pairs = append(pairs, p)
	}
	slices.SortFunc(pairs, func(a, b api.Pair) int { return (a.A-b.A)*1000 + a.B - b.B })
	var l []string
	for _, p := range pairs {
		l = append(l, fmt.Sprintf("%d-%d:%d", p.A, p.B, m[p]))
	}
	return l
}

// last: what the last of so many steps by main alone has come to, as told.
func last(t *testing.T, body string, steps int) string {
	t.Helper()
	m := started(t, "var v;mutex m;func w(){}func main(){"+body+"}")
	var e api.Event
	for range steps {
		e = stepAs(t, m, 0)
	}
	return tell(e)
}

// enough: more steps than any run takes here that ends.
const enough = 10000

// runAlone: the events of a machine that goes on till it is over, the first that is ready first.
func runAlone(m *Machine) []api.Event {
	var events []api.Event
	m.Run(func([]int) int { return 0 }, func(e api.Event) bool {
		events = append(events, e)
		return len(events) < enough
	})
	return events
}
