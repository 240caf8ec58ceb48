package names

import (
	"slices"
	"testing"

	"races/api"
	"races/fault"
	"races/grammar"
	"races/tree"
)

func resolved(t *testing.T, text string) *tree.Program {
	t.Helper()
	var p *tree.Program
	err := fault.Catch(func() {
		p = grammar.Read(text)
		Resolve(p)
	})
	if err != nil {
		t.Fatalf("%q: %v", text, err)
	}
	return p
}

// TestP5Kinds: loads and stores are told from other assignments, by what is a variable.
func TestP5Kinds(t *testing.T) {
	p := resolved(t, "var v;func main(){x=v;v=x;v=1;x=y;x=1;x=y+1;if x{x=v;}}")
	want := []int{api.SLoad, api.SStore, api.SStore, api.SSet, api.SSet, api.SSet, api.SIf, api.SLoad}
	var got []int
	for i, s := range p.Statements {
		got = append(got, s.Kind)
		if s.Place != i {
			t.Errorf("statement %d is at place %d", i, s.Place)
		}
	}
	if !slices.Equal(got, want) {
		t.Errorf("kinds %v, want %v", got, want)
	}
}

// TestP5Numbers: names are numbered each among its kind, as declared; locals as they come, parameters first.
func TestP5Numbers(t *testing.T) {
	p := resolved(t, "func f(a,b){c=b;b=v;}var u;mutex m;var v;mutex n;func main(){d=new;v=e;lock n;x=f(d,e);}")
	var left, right []int
	for _, s := range p.Statements {
		left = append(left, s.Left.Number)
		for _, a := range s.Right {
			right = append(right, a.Name.Number)
		}
	}
	if want := []int{2, 1, 0, 1, 0, 2}; !slices.Equal(left, want) {
		t.Errorf("left %v, want %v", left, want)
	}
	if want := []int{1, 1, 1, 0, 1}; !slices.Equal(right, want) {
		t.Errorf("right %v, want %v", right, want)
	}
	if p.Statements[4].Named.Number != 1 || p.Statements[5].Named.Number != 0 {
		t.Errorf("named %v and %v", p.Statements[4].Named, p.Statements[5].Named)
	}
	var declared, params, locals []int
	for _, d := range p.Declarations {
		declared = append(declared, d.Name.Number)
		locals = append(locals, d.Locals)
		for _, name := range d.Params {
			params = append(params, name.Number)
		}
	}
	if want := []int{0, 1}; !slices.Equal(params, want) {
		t.Errorf("parameters %v, want %v", params, want)
	}
	if want := []int{0, 0, 0, 1, 1, 1}; !slices.Equal(declared, want) {
		t.Errorf("declared %v, want %v", declared, want)
	}
	if want := []int{3, 0, 0, 0, 0, 3}; !slices.Equal(locals, want) {
		t.Errorf("locals %v, want %v", locals, want)
	}
}
