package flow

import (
	"testing"

	"races/grammar"
	"races/names"
)

func flowOf(text string) *Program {
	source := grammar.Read(text)
	names.Resolve(source)
	return Of(source)
}

// TestFlow: where each statement goes on; of all but tests Inside means nothing.
func TestFlow(t *testing.T) {
	p := flowOf("func f(){x=1;if x{x=2;}else{while x{x=3;if x{}}}x=4;}func main(){while 1{while 0{}}}func e(){}")
	next := []int{1, 3, 6, 6, 5, 3, End, End, 7}
	inside := map[int]int{1: 2, 3: 4, 5: 3, 7: 8, 8: 8}
	for i, s := range p.Statements {
		if s.Place != i || s.Next != next[i] {
			t.Errorf("statement %d: place %d, then %d, want %d", i, s.Place, s.Next, next[i])
		}
		if want, ok := inside[i]; ok && s.Inside != want {
			t.Errorf("statement %d: inside %d, want %d", i, s.Inside, want)
		}
	}
	if len(p.Begins) != 3 || p.Begins[0] != 0 || p.Begins[1] != 7 || p.Begins[2] != End || p.Main != 1 {
		t.Errorf("functions begin at %v, main is number %d", p.Begins, p.Main)
	}
}

// TestFunctions: each statement knows its function; mutexes are counted.
func TestFunctions(t *testing.T) {
	p := flowOf("mutex m;func f(){if x{x=1;}else{while x{x=2;}}}var v;func e(){}mutex n;func main(){x=3;}")
	for i, want := range []int{0, 0, 0, 0, 2} {
		if got := p.Statements[i].Function; got != want {
			t.Errorf("statement %d is in function %d, want %d", i, got, want)
		}
	}
	if p.Mutexes != 2 || p.Main != 2 {
		t.Errorf("%d mutexes, main is number %d", p.Mutexes, p.Main)
	}
}

// TestFlowOfIfs: without an else what fails goes on behind; an empty block goes on behind, too.
func TestFlowOfIfs(t *testing.T) {
	p := flowOf("func main(){if x{y=1;}if x{}else{y=2;}if x{y=3;}else{}}")
	for i, want := range map[int][2]int{0: {2, 1}, 2: {3, 4}, 4: {End, 5}} {
		if s := p.Statements[i]; s.Next != want[0] || s.Inside != want[1] {
			t.Errorf("statement %d: %d and %d, want %v", i, s.Next, s.Inside, want)
		}
	}
}
