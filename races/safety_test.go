package races

import (
	"math"
	"runtime"
	"slices"
	"strings"
	"sync"
	"testing"
	"time"

	"races/api"
)

// samples: programs that have, between them, every form of the language.
func samples() []string {
	return []string{
		"var v;mutex m;func f(a,b){x=a+b;v=x;return x;}func main(){lock m;y=v;unlock m;t=go f(y,2);join t;z=f(1,y);}",
		"func main(){o=new;o.l=1;o.r=o;x=o.l;y=o.r;go main();main();if x<y{}}",
		"func main(){o=new;o.l=1;o.r=o;x=o.l;y=o.r;go main();main();x=x<y;x=x-y;x=x==y;}",
		"func main(){if x{y=007;}else{while y{if 0{}else{return;}}}return y;}\n",
		"func f(a){while a{while a{while a{while a{while a{a=a-1;}}}}}}func main(){ f ( 9 ) ; }",
		"",
	}
}

// ask reads a text, asks what has been read, and checks what is so of all texts.
func ask(t *testing.T, text string) {
	t.Helper()
	p, err := Read(text)
	if err != nil {
		_, at := err.Parts()
		if p != nil || !properError(err) || at > len(text) {
			t.Fatalf("%q: no proper error: %v, program %v", text, err, p)
		}
		return
	}
	if p == nil {
		t.Fatalf("%q: neither a program nor an error", text)
	}
	places := p.Places()
	if !slices.IsSorted(places) || len(slices.Compact(slices.Clone(places))) != len(places) {
		t.Fatalf("%q: places do not rise: %v", text, places)
	}
	askReports(t, p, len(places))
	askMachine(t, p.Start(), len(text))
	printed := p.Print()
	if len(printed) > api.MaxText {
		return
	}
	again, err := Read(printed)
	if err != nil || again.Print() != printed || len(again.Places()) != len(places) {
		t.Fatalf("%q: read again as printed it is another program: %v", text, err)
	}
}

// askReports checks what is so of all reports of a program with so many places.
func askReports(t *testing.T, p *Program, places int) {
	t.Helper()
	last := api.Pair{A: -1}
	for r := range p.Reports() {
		if r.A < last.A || r.A == last.A && r.B <= last.B || r.A > r.B || r.B >= places {
			t.Fatalf("%s: %v behind %v", p.Print(), r, last)
		}
		last = api.Pair{A: r.A, B: r.B}
		if r.New < -1 || r.New >= api.MaxNews || r.Field < 0 || r.Field >= api.MaxVars || r.New >= 0 && r.Field > 1 {
			t.Fatalf("%s: a thing that can't be: %v", p.Print(), r)
		}
		if min(r.RootA, r.RootB) < 0 || max(r.RootA, r.RootB) > api.MaxGos || r.RootA+r.RootB == 0 {
			t.Fatalf("%s: roots that can't be: %v", p.Print(), r)
		}
		held := slices.Concat(r.LocksA, r.LocksB)
		slices.Sort(held)
		if !slices.IsSorted(r.LocksA) || !slices.IsSorted(r.LocksB) || len(slices.Compact(held)) != len(r.LocksA)+len(r.LocksB) {
			t.Fatalf("%s: mutexes that can't be: %v", p.Print(), r)
		}
	}
}

// askMachine lets a machine make a few steps, and checks what is so of all events.
func askMachine(t *testing.T, m *Machine, seed int) {
	t.Helper()
	steps := 0
	m.Run(func(ready []int) int {
		return (steps + 1) * (seed - 40)
	}, func(e api.Event) bool {
		steps++
		if e.Kind < api.SSet || e.Kind > api.Faulty || e.Thread < 0 || e.Thread >= m.Threads() || e.Val == nil {
			t.Fatalf("an event that can't be: %v", e)
		}
		if m.Threads() > api.MaxThreads || m.Objects() > api.MaxObjects {
			t.Fatalf("%d threads, %d objects", m.Threads(), m.Objects())
		}
		return steps < 40
	})
	for p, n := range m.Copy().Races() {
		if p.A < 0 || p.A > p.B || p.B >= api.MaxPlaces || n < 1 || n > steps {
			t.Fatalf("a race that can't be: %v at step %d of %d", p, n, steps)
		}
	}
	for p, n := range m.Search(seed%3, 2) {
		if p.A < 0 || p.A > p.B || p.B >= api.MaxPlaces || n < 0 || n > seed%3 {
			t.Fatalf("a race that can't be found: %v behind %d steps of %d", p, n, seed%3)
		}
	}
}

// TestP1AllTexts: no text makes Read, Print or Places panic: samples that are cut short, lack a byte, or have another or one more.
func TestP1AllTexts(t *testing.T) {
	for _, s := range samples() {
		for i := range len(s) + 1 {
			ask(t, s[:i])
			ask(t, s[i:])
			for c := range 256 {
				ask(t, s[:i]+string([]byte{byte(c)})+s[i:])
				if i < len(s) {
					ask(t, s[:i]+string([]byte{byte(c)})+s[i+1:])
				}
			}
			if i < len(s) {
				ask(t, s[:i]+s[i+1:])
			}
		}
	}
}

// TestP1Words: no row of words makes them panic: samples of which a word is another one.
func TestP1Words(t *testing.T) {
	all := strings.Fields("var mutex func lock unlock join return if else while go new ; { } ( ) , . + - < = == x v m f l 7")
	for _, s := range samples() {
		words := split(s)
		for i := range words {
			for _, w := range all {
				ask(t, strings.Join(slices.Concat(words[:i], []string{w}, words[i+1:]), " "))
				ask(t, strings.Join(slices.Concat(words[:i], []string{w}, words[i:]), " "))
			}
		}
	}
}

// split: a sample's words.
func split(text string) []string {
	for _, sign := range []string{";", "{", "}", "(", ")", ",", ".", "+", "-", "<", "="} {
		text = strings.ReplaceAll(text, sign, " "+sign+" ")
	}
	return strings.Fields(strings.ReplaceAll(text, "=  =", "=="))
}

func TestP1GreatTexts(t *testing.T) {
	for _, piece := range []string{"a", "0", "{", "func f(){", "x=1;", " ", "\x00", "é", "if x{", "f(", ","} {
		ask(t, strings.Repeat(piece, 1<<16))
		ask(t, strings.Repeat(piece, 700/len(piece)))
		ask(t, "func main(){"+strings.Repeat(piece, 600/len(piece)))
	}
}

// TestP1NoProgram: there is no program beside an error; who asks it all the same gets an answer.
func TestP1NoProgram(t *testing.T) {
	none, _ := Read("")
	for _, p := range []*Program{none, {}} {
		if p.Print() != "" || len(p.Places()) != 0 || len(reportsOf(p)) != 0 {
			t.Errorf("no program, but it has a text, places or reports")
		}
		idle(t, p.Start())
	}
}

// TestP1NoMachine: one that no program has started does nothing.
func TestP1NoMachine(t *testing.T) {
	var none *Machine
	idle(t, none)
	idle(t, none.Copy())
	idle(t, &Machine{})
}

// idle: the machine answers, but there is nothing that it does.
func idle(t *testing.T, m *Machine) {
	t.Helper()
	readyAre(t, m)
	counts(t, m, 0, 0)
	steps := m.Run(func([]int) int { return 0 }, yes)
	if e := m.Step(0); steps != 0 || e != (api.Event{Val: api.Number(0)}) {
		t.Errorf("nothing runs, but it makes %d steps and %s", steps, tell(e))
	}
	if r := m.Races(); r == nil || len(r) > 0 {
		t.Errorf("nothing runs, but it races: %v", r)
	}
	if r := m.Search(4, 2); r == nil || len(r) > 0 {
		t.Errorf("nothing runs, but a race is found: %v", r)
	}
}

// TestP1NoFunctions: a run without a function that chooses or sees makes no step.
func TestP1NoFunctions(t *testing.T) {
	m := started(t, writers)
	zero := func([]int) int { return 0 }
	if m.Run(nil, yes) != 0 || m.Run(zero, nil) != 0 || m.Run(nil, nil) != 0 {
		t.Errorf("it makes steps")
	}
	if steps := m.Run(zero, yes); steps != 5 {
		t.Errorf("%d steps behind them, want 5", steps)
	}
}

// TestP1NoYield: reports that are told to no one are told to no one.
func TestP1NoYield(t *testing.T) {
	p := mustRead(t, three)
	p.Reports()(nil)
	(&Program{}).Reports()(nil)
	if got := len(reportsOf(p)); got != 3 {
		t.Errorf("%d reports behind it, want 3", got)
	}
}

// TestP1AllSearches: no depth and no number of workers makes a search panic, wherever the machine stands.
func TestP1AllSearches(t *testing.T) {
	numbers := []int{0, 1, -1, 4, 5, 8, 9, 1 << 40, -1 << 40, math.MaxInt, math.MinInt}
	for _, text := range []string{rich, writers, "func main(){while 1{go main();}}", "func main(){}"} {
		m := started(t, text)
		for k := range 20 {
			for i, depth := range numbers {
				workers := numbers[(i+k)%len(numbers)]
				for p, n := range m.Search(depth, workers) {
					if n < 0 || n > max(0, min(4, depth)) {
						t.Fatalf("%q: depth %d, %d workers: %v behind %d steps", text, depth, workers, p, n)
					}
				}
			}
			m.Step(k)
		}
	}
}

// TestP1AllNumbers: no choice makes a step panic, and each makes one while someone is ready.
func TestP1AllNumbers(t *testing.T) {
	for _, c := range []int{0, 1, -1, 5, -5, 6, -6, 1 << 40, -1 << 40, math.MaxInt, math.MinInt, math.MinInt + 1} {
		for _, text := range append(samples(), rich, writers) {
			p, err := Read(text)
			if err != nil {
				continue
			}
			m := p.Start()
			for k := 0; k < 200 && len(m.Ready()) > 0; k++ {
				ready := m.Ready()
				if e := m.Step(c); e.Kind == 0 || !slices.Contains(ready, e.Thread) {
					t.Fatalf("%q, choice %d: %s, ready are %v", text, c, tell(e), ready)
				}
			}
		}
	}
}

func TestP1NoGoroutineStays(t *testing.T) {
	before := runtime.NumGoroutine()
	for _, s := range samples() {
		ask(t, s)
	}
	noMoreGoroutines(t, before)
}

// noMoreGoroutines: there are as many as before. They may take a moment to be gone behind their last deed.
func noMoreGoroutines(t *testing.T, before int) {
	t.Helper()
	for range 200 {
		if runtime.NumGoroutine() <= before {
			return
		}
		time.Sleep(5 * time.Millisecond)
	}
	t.Errorf("%d goroutines, %d before", runtime.NumGoroutine(), before)
}

// TestP2ListsAreTheCallers: what is written into an answer, and into its spare room, changes no later one.
func TestP2ListsAreTheCallers(t *testing.T) {
	p := mustRead(t, "func main(){x=1;y=2;if x{z=3;}}")
	want := []int{12, 16, 20, 25}
	text := p.Print()
	first := p.Places()
	second := p.Places()
	for i := range first[:cap(first)] {
		first[:cap(first)][i] = -7
	}
	_ = append(first, 99)
	if !slices.Equal(second, want) {
		t.Errorf("two answers share memory: %v", second)
	}
	if got := p.Places(); !slices.Equal(got, want) {
		t.Errorf("places are the program's own: %v, want %v", got, want)
	}
	if p.Print() != text {
		t.Errorf("the program has changed")
	}
}

// TestP2ReadyIsTheCallers: as with places.
func TestP2ReadyIsTheCallers(t *testing.T) {
	m := started(t, "func w(){x=1;}func main(){go w();go w();}")
	order(t, m, "00")
	first, second := m.Ready(), m.Ready()
	for i := range first[:cap(first)] {
		first[:cap(first)][i] = -7
	}
	_ = append(first, 99)
	if want := []int{0, 1, 2}; !slices.Equal(second, want) || !slices.Equal(m.Ready(), want) {
		t.Errorf("ready are %v, then %v, want %v", second, m.Ready(), want)
	}
	play(t, m, "2: 2 set@0 -1.0 1")
}

// TestP2ReportsAreTheCallers: as with places; the two lists of a report share nothing either.
func TestP2ReportsAreTheCallers(t *testing.T) {
	p := mustRead(t, "var g;mutex m;mutex n;mutex k;func w(){lock m;lock k;g=1;g=3;}func main(){go w();lock n;g=2;}")
	want := []string{"2-6 var0 roots 1 0 held [0 2] [1]", "3-6 var0 roots 1 0 held [0 2] [1]"}
	text, reports := p.Print(), p.Reports()
	for range 3 {
		var told []string
		var lists [][]int
		for r := range reports {
			told = append(told, tellReport(r))
			for _, l := range [][]int{r.LocksA, r.LocksB} {
				for i := range l[:cap(l)] {
					l[:cap(l)][i] = 100 + len(lists)
				}
				lists = append(lists, l)
			}
		}
		if !slices.Equal(told, want) || !slices.Equal(reportsOf(p), want) {
			t.Fatalf("told %v, want %v", told, want)
		}
		for i, l := range lists {
			if slices.ContainsFunc(l[:cap(l)], func(n int) bool { return n != 100+i }) {
				t.Errorf("list %d shares memory with another: %v", i, l)
			}
		}
	}
	if p.Print() != text {
		t.Errorf("the program has changed")
	}
}

// TestP2ReportsAtATime: asking changes nothing, so that many may ask at a time.
func TestP2ReportsAtATime(t *testing.T) {
	p := mustRead(t, three)
	reports, want := p.Reports(), reportsOf(p)
	var asking sync.WaitGroup
	for range 8 {
		asking.Go(func() {
			for range 20 {
				var told []string
				for r := range reports {
					told = append(told, tellReport(r))
				}
				if !slices.Equal(told, want) {
					t.Errorf("told %v, want %v", told, want)
				}
			}
		})
	}
	asking.Wait()
}

// TestP2AskingChangesNothing: a machine that is asked all the time goes the way of one that is not; so does its program.
func TestP2AskingChangesNothing(t *testing.T) {
	p := mustRead(t, rich)
	text, places, reports := p.Print(), p.Places(), reportsOf(p)
	m, n := p.Start(), p.Start()
	for k := 0; len(n.Ready()) > 0; k++ {
		asked(m)
		m.Copy().Step(k)
		m.Search(2, 2)
		p.Start().Step(0)
		reportsOf(p)
		if e, f := m.Step(k), n.Step(k); e != f {
			t.Fatalf("step %d: %s, but %s if not asked", k, tell(e), tell(f))
		}
	}
	if !slices.Equal(asked(m), asked(n)) {
		t.Errorf("%v, but %v if not asked", asked(m), asked(n))
	}
	if p.Print() != text || !slices.Equal(p.Places(), places) || !slices.Equal(reportsOf(p), reports) {
		t.Errorf("the program has changed")
	}
}

// TestP2ProgramsStandAlone: a program is changed by nothing, not even by reading others, or the same text again.
func TestP2ProgramsStandAlone(t *testing.T) {
	const text = "var v;func main(){x=v;v=x;}"
	p := mustRead(t, text)
	printed, places := p.Print(), p.Places()
	for _, s := range samples() {
		Read(s)
	}
	mustRead(t, text)
	Read("func main(){$")
	if p.Print() != printed || !slices.Equal(p.Places(), places) {
		t.Errorf("the program has changed: %s %v", p.Print(), p.Places())
	}
}

// TestErrorsStandAlone: an error that has been told stays as it is.
func TestErrorsStandAlone(t *testing.T) {
	_, first := Read("func main(){x=$")
	_, second := Read("var g;var g;")
	if e, at := first.Parts(); e != api.ErrChar || at != 14 {
		t.Errorf("the first error is %v now", first)
	}
	if e, at := second.Parts(); e != api.ErrTwice || at != 10 {
		t.Errorf("the second error is %v", second)
	}
}
