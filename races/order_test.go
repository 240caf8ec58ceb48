package races

import (
	"fmt"
	"maps"
	"slices"
	"testing"

	"races/api"
)

// raced: threads that make steps in that order, each digit one, have raced just so.
func raced(t *testing.T, text, threads string, want ...string) {
	t.Helper()
	m := started(t, text)
	order(t, m, threads)
	if got := tellPairs(m.Races()); !slices.Equal(got, want) {
		t.Errorf("%q, %s: races %v, want %v", text, threads, got, want)
	}
}

// docW is the declarations, called W, with which the document's examples begin.
const docW = "var g;mutex m;func w(){g=1;}"

func TestP9Examples(t *testing.T) {
	text := docW + "func main(){go w();g=2;}"
	m := started(t, text)
	play(t, m, "0: 0 go@1 1.0 0")
	readyAre(t, m, 0, 1)
	play(t, m, "1: 1 store@0 -1.0 1")
	racesAre(t, m)
	play(t, m, "0: 0 store@2 -1.0 2")
	racesAre(t, m, "0-2:3")
	raced(t, docW+"func main(){t=go w();join t;g=2;}", "011000")
	raced(t, docW+"func main(){go w();go w();}", "00012", "0-0:5")
	raced(t, docW+"func main(){go w();lock m;x=g;unlock m;}", "00100", "0-3:4")
}

// TestP9Threads: of one thread's events none race; a start is before what it starts, but not the other way about.
func TestP9Threads(t *testing.T) {
	raced(t, "var g;func main(){g=1;x=g;g=2;}", "0000")
	raced(t, docW+"func main(){g=2;x=g;go w();y=1;}", "0001")
	raced(t, docW+"func main(){g=2;x=g;go w();y=1;}", "000011")
	raced(t, docW+"func main(){go w();g=2;x=g;}", "01100", "0-2:4", "0-3:5")
	raced(t, docW+"func main(){go w();g=2;x=g;}", "0001", "0-2:4", "0-3:4")
	// What main did ahead of a start is before all that the threads below it do.
	raced(t, "var g;func f(){g=1;}func w(){go f();}func main(){g=2;go w();}", "00012")
	raced(t, "var g;func f(){g=1;}func w(){go f();}func main(){go w();g=2;}", "0012", "0-3:4")
	raced(t, "var g;func f(){g=1;}func w(){go f();g=3;}func main(){go w();}", "0112", "0-2:4")
	raced(t, "var g;func f(){g=1;}func w(){g=3;go f();}func main(){go w();}", "0112")
}

func TestP9Joins(t *testing.T) {
	raced(t, docW+"func main(){t=go w();u=go w();join t;g=2;join u;g=3;}", "001122000", "0-0:5", "0-4:8")
	// A join of one that has joined another is behind both.
	raced(t, "var g;func f(){g=1;}func w(){t=go f();join t;}func main(){t=go w();join t;g=2;}", "0122"+"11"+"00")
	raced(t, "var g;func f(){g=1;}func w(){t=go f();}func main(){t=go w();join t;g=2;}", "0122"+"1"+"00", "0-4:7")
	// Not what is behind a thread's end by another is known, but what the thread did.
	raced(t, "var g;func w(){x=g;}func main(){t=go w();g=1;join t;g=2;}", "0110"+"00", "0-2:4")
	// A thread that has failed may be joined: what it did ahead of that is before it.
	raced(t, "var g;func w(){g=1;x=y.l;}func main(){t=go w();join t;g=2;}", "01100")
	raced(t, "var g;func w(){g=1;x=y.l;}func main(){t=go w();g=2;join t;}", "01100", "0-3:4")
	// A second join of the same thread learns no more and no less.
	raced(t, docW+"func main(){t=go w();join t;join t;g=2;}", "011000")
}

func TestP9Locks(t *testing.T) {
	const both = "var g;mutex m;mutex n;func w(){lock m;g=1;unlock m;}"
	raced(t, both+"func main(){go w();lock m;g=2;unlock m;}", "0000111")
	raced(t, both+"func main(){go w();lock m;g=2;unlock m;}", "0111000")
	raced(t, both+"func main(){go w();lock n;g=2;unlock n;}", "0000111", "1-5:6")
	// An unlock is before a later lock: what is done ahead of it, and behind that, is in order.
	raced(t, both+"func main(){go w();g=2;lock m;unlock m;}", "000011")
	raced(t, both+"func main(){go w();g=2;lock m;unlock m;}", "011100", "1-4:5")
	raced(t, both+"func main(){go w();lock m;unlock m;g=2;}", "0111000")
	raced(t, both+"func main(){go w();lock m;unlock m;g=2;}", "000011", "1-6:6")
	// What comes behind an unlock is not before the lock.
	raced(t, "var g;mutex m;func w(){lock m;unlock m;g=1;}func main(){go w();lock m;unlock m;x=g;}", "0111000", "2-6:7")
	// A lock that is not unlocked is before nothing.
	raced(t, "var g;mutex m;func w(){g=1;lock m;}func main(){go w();x=g;}", "0110", "0-3:4")
}

// TestP9ThroughOthers: what follows from the rules, over a third thread and a second mutex.
func TestP9ThroughOthers(t *testing.T) {
	const text = "var g;mutex m;mutex n;func a(){g=1;lock m;unlock m;}func b(){lock m;unlock m;lock n;unlock n;}" +
		"func main(){go a();go b();lock n;unlock n;g=2;}"
	raced(t, text, "00"+"111"+"2222"+"000")
	raced(t, text, "00"+"22"+"111"+"22"+"000", "0-11:12")
	raced(t, text, "00"+"111"+"22"+"000", "0-11:10")
	// An unlock long ago is before a lock as well as the last one is.
	raced(t, text, "00"+"111"+"00"+"2222"+"0", "0-11:12")
	const long = "var g;mutex m;func a(){g=1;lock m;unlock m;}func b(){lock m;unlock m;}func main(){go a();go b();lock m;unlock m;g=2;}"
	raced(t, long, "00"+"111"+"22"+"000")
	raced(t, long, "00"+"22"+"111"+"000")
	raced(t, long, "00"+"22"+"000"+"1", "0-9:8")
}

// TestP9FailedUnlocks: an unlock that fails is none.
func TestP9FailedUnlocks(t *testing.T) {
	const text = "var g;mutex m;func w(){g=1;unlock m;}func main(){go w();lock m;g=2;}"
	raced(t, text, "01100", "0-4:5")
}

func TestP9Kinds(t *testing.T) {
	// Of two reads none race; a read and a write do, either first.
	raced(t, "var g;func w(){x=g;}func main(){go w();x=g;}", "0101")
	raced(t, "var g;func w(){x=g;}func main(){go w();g=1;}", "010", "0-2:3")
	raced(t, "var g;func w(){x=g;}func main(){go w();g=1;}", "001", "0-2:3")
	raced(t, "func w(o){x=o.l;}func main(){o=new;go w(o);x=o.l;}", "0010")
	raced(t, "func w(o){x=o.l;}func main(){o=new;go w(o);o.l=1;}", "0010", "0-3:4")
	raced(t, "func w(o){o.r=2;}func main(){o=new;go w(o);x=o.r;}", "0001", "0-3:4")
	raced(t, "func w(o){o.r=2;}func main(){o=new;go w(o);go w(o);}", "00012", "0-0:5")
}

// TestP9OneThing: other variables, fields and objects are other things.
func TestP9OneThing(t *testing.T) {
	raced(t, "var g;var h;func w(){g=1;}func main(){go w();h=1;}", "010")
	raced(t, "func w(o){o.l=1;}func main(){o=new;go w(o);o.r=1;}", "0010")
	raced(t, "func w(o){o.l=1;}func main(){o=new;p=new;go w(o);p.l=1;}", "00010")
	raced(t, "func w(o){o.l=1;}func main(){o=new;p=o;go w(o);p.l=1;}", "00010", "0-4:5")
	// Variable 0 and field 0 of object 0 are not one thing.
	raced(t, "var g;func w(o){o.l=1;}func main(){o=new;go w(o);g=1;}", "0010")
}

// TestP9AllPairs: not just the last access counts, nor just one a thread.
func TestP9AllPairs(t *testing.T) {
	const text = "var g;func w(){g=1;x=g;g=2;}func main(){go w();g=3;x=g;}"
	raced(t, text, "0"+"111"+"00", "0-4:5", "0-5:6", "1-4:5", "2-4:5", "2-5:6")
	raced(t, text, "0"+"00"+"111", "0-4:4", "0-5:4", "1-4:5", "2-4:6", "2-5:6")
	const three = "var g;func w(){g=1;}func main(){go w();go w();go w();x=g;}"
	raced(t, three, "000"+"1230", "0-0:5", "0-4:7")
}

// TestP9FirstStepCounts: a race that comes again keeps the number of the step that made it.
func TestP9FirstStepCounts(t *testing.T) {
	m := started(t, "var g;func w(){while 1{g=1;}}func main(){go w();while 1{g=2;}}")
	order(t, m, "0"+"11"+"00")
	racesAre(t, m, "1-4:5")
	order(t, m, "11110000")
	racesAre(t, m, "1-4:5")
}

// TestP9WhichSteps: all steps of the machine count, those that fail among them; a Step without anyone ready is none.
func TestP9WhichSteps(t *testing.T) {
	raced(t, "var g;func w(){g=1;}func f(){x=y.l;}func main(){go w();go f();if 0{}x=1;g=2;}", "00"+"2"+"1"+"000", "0-6:7")
	m := started(t, "var g;mutex m;func w(){g=1;}func main(){go w();go w();lock m;lock m;}")
	order(t, m, "00012")
	racesAre(t, m, "0-0:5")
	order(t, m, "12")
	over(t, m)
	for range 3 {
		m.Step(0)
	}
	racesAre(t, m, "0-0:5")
	// An access that fails is none.
	raced(t, "func w(o){x=o.l;}func main(){go w(0);y.l=1;}", "010")
}

// TestP9CopiesCountOn: from where they were taken, each by itself.
func TestP9CopiesCountOn(t *testing.T) {
	m := started(t, writers)
	order(t, m, "01")
	c := m.Copy()
	order(t, c, "0")
	racesAre(t, c, "0-2:3")
	racesAre(t, m)
	order(t, m, "1")
	d := m.Copy()
	order(t, m, "0")
	racesAre(t, m, "0-2:4")
	racesAre(t, c, "0-2:3")
	racesAre(t, d)
	order(t, d, "0")
	racesAre(t, d, "0-2:4")
}

// TestP9ClocksOfCopies: what one learns by a lock or a start the other does not know.
func TestP9ClocksOfCopies(t *testing.T) {
	const text = "var g;mutex m;func w(){g=1;lock m;unlock m;}func main(){go w();lock m;unlock m;g=2;}"
	m := started(t, text)
	order(t, m, "01")
	c := m.Copy()
	order(t, m, "11"+"000")
	racesAre(t, m)
	order(t, c, "000")
	racesAre(t, c, "0-6:5")
}

func TestP9MapsAreTheCallers(t *testing.T) {
	m := started(t, writers)
	order(t, m, "010")
	first, second := m.Races(), m.Races()
	first[api.Pair{A: 7, B: 7}] = 7
	delete(first, api.Pair{A: 0, B: 2})
	if want := map[api.Pair]int{{A: 0, B: 2}: 3}; !maps.Equal(second, want) || !maps.Equal(m.Races(), want) {
		t.Errorf("%v and %v, want %v", second, m.Races(), want)
	}
	none := started(t, writers).Races()
	if none == nil || len(none) > 0 {
		t.Errorf("races of a machine at its start: %v", none)
	}
}

// before: which events happen before which, by the words of P9: the rules one by one, and then what follows.
func before(events []api.Event) [][]bool {
	b := make([][]bool, len(events))
	for j, later := range events {
		b[j] = make([]bool, len(events))
		for i, e := range events[:j] {
			b[i][j] = e.Thread == later.Thread ||
				e.Kind == api.SGo && e.Obj == later.Thread ||
				e.Kind == api.SUnlock && later.Kind == api.SLock && e.Field == later.Field ||
				later.Kind == api.SJoin && later.Obj == e.Thread
		}
	}
	for k := range events {
		for i := range events {
			for j := range events {
				b[i][j] = b[i][j] || b[i][k] && b[k][j]
			}
		}
	}
	return b
}

// racesOf: the races of a row of events, by the words of P9.
func racesOf(events []api.Event) map[api.Pair]int {
	access := map[int]bool{api.SLoad: true, api.SStore: true, api.SGet: true, api.SPut: true}
	write := map[int]bool{api.SStore: true, api.SPut: true}
	b := before(events)
	found := map[api.Pair]int{}
	for j, f := range events {
		for i, e := range events[:j] {
			same := e.Obj == f.Obj && e.Field == f.Field && e.Thread != f.Thread
			if access[e.Kind] && access[f.Kind] && same && (write[e.Kind] || write[f.Kind]) && !b[i][j] {
				p := api.Pair{A: min(e.Place, f.Place), B: max(e.Place, f.Place)}
				if _, ok := found[p]; !ok {
					found[p] = j + 1
				}
			}
		}
	}
	return found
}

// TestP9ByItsWords: whoever goes on, the races are those that the rules make.
func TestP9ByItsWords(t *testing.T) {
	texts := []string{
		rich, writers,
		"var g;var h;mutex m;mutex n;func a(){lock m;g=1;unlock m;x=h;}func b(){lock n;x=g;unlock n;lock m;h=2;unlock m;}func main(){t=go a();u=go b();lock m;g=3;unlock m;join u;x=h;lock n;h=4;unlock n;join t;g=5;}",
		"var g;mutex m;func w(){i=3;while i{i=i-1;lock m;x=g;unlock m;g=x;}}func main(){t=go w();u=go w();join t;x=g;go w();join u;g=7;}",
		"var g;func w(o){t=g;o.l=1;join t;o.r=2;x=o.l;}func main(){o=new;t=go w(o);g=t;u=go w(o);g=u;x=o.r;o.l=3;join u;x=o.l;}",
		"mutex m;func w(o){lock m;p=o.l;unlock m;p.r=1;x=p.r;}func main(){o=new;p=new;o.l=p;go w(o);q=new;lock m;o.l=q;unlock m;go w(o);q.r=5;p.r=6;}",
	}
	seen := 0
	for _, text := range texts {
		p := mustRead(t, text)
		for turn := range 300 {
			seen += byItsWords(t, p.Start(), uint32(turn))
		}
	}
	if seen == 0 {
		t.Error("nothing has raced: the programs are no test")
	}
}

// byItsWords checks the races of a run of at most 60 steps, and tells how many there are.
func byItsWords(t *testing.T, m *Machine, seed uint32) int {
	t.Helper()
	var events []api.Event
	m.Run(func(ready []int) int {
		seed = seed*1664525 + 1013904223
		return int(seed >> 16)
	}, func(e api.Event) bool {
		events = append(events, e)
		return len(events) < 60
	})
	got := m.Races()
	if want := racesOf(events); !maps.Equal(got, want) {
		var told string
		for _, e := range events {
			told += fmt.Sprintln(tell(e))
		}
		t.Fatalf("%sraces %v, want %v", told, tellPairs(got), tellPairs(want))
	}
	return len(got)
}
