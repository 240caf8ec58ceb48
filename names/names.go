// Package names finds out what a program's names stand for (P5).
package names

import (
	"races/api"
	"races/fault"
	"races/tree"
)

// namer knows what has been declared up to where it stands, and counts what is limited.
type namer struct {
	program   *tree.Program
	declared  map[string]thing
	functions []*function
	news      int
	starts    int
}

// thing is what a declared name stands for.
type thing struct {
	kind   tree.Kind
	number int
}

// function is a declared function, with the numbers of its locals.
type function struct {
	declaration *tree.Declaration
	locals      map[string]int
}

// Resolve numbers a program's names and statements, and tells loads and stores from other assignments; it throws the first fault.
func Resolve(p *tree.Program) {
	n := &namer{program: p, declared: map[string]thing{}}
	n.declarations()
	for _, f := range n.functions {
		n.parameters(f)
	}
	for _, f := range n.functions {
		n.block(f, f.declaration.Body)
		f.declaration.Locals = len(f.locals)
	}
	n.main()
}

func (n *namer) declarations() {
	// How many there are of each kind, by kind.
	var count [3]int
	most := [3]int{api.MaxVars, api.MaxMutexes, api.MaxFuncs}
	for _, d := range n.program.Declarations {
		if _, ok := n.declared[d.Name.Text]; ok {
			fault.Throw(api.ErrTwice, d.Name.At)
		}
		if count[d.Kind] == most[d.Kind] {
			fault.Throw(api.ErrFull, d.Name.At)
		}
		d.Name.Number = count[d.Kind]
		n.declared[d.Name.Text] = thing{kind: d.Kind, number: d.Name.Number}
		count[d.Kind]++
		if d.Kind == tree.Function {
			n.functions = append(n.functions, &function{declaration: d, locals: map[string]int{}})
		}
	}
}

func (n *namer) parameters(f *function) {
	params := f.declaration.Params
	for i := range params {
		name := &params[i]
		_, declared := n.declared[name.Text]
		_, twice := f.locals[name.Text]
		if declared || twice {
			fault.Throw(api.ErrTwice, name.At)
		}
		if i == api.MaxParams {
			fault.Throw(api.ErrFull, name.At)
		}
		name.Number = i
		f.locals[name.Text] = i
	}
}

func (n *namer) main() {
	t, ok := n.find("main", tree.Function)
	if !ok || len(n.functions[t].declaration.Params) > 0 {
		fault.Throw(api.ErrMain, 0)
	}
}

// find tells the number of what is declared by that name, if it is of that kind.
func (n *namer) find(text string, kind tree.Kind) (int, bool) {
	t, ok := n.declared[text]
	if !ok || t.kind != kind {
		return 0, false
	}
	return t.number, true
}
