package names

import (
	"races/api"
	"races/fault"
	"races/tree"
)

func (n *namer) block(f *function, l []*tree.Statement) {
	for _, s := range l {
		n.statement(f, s)
	}
}

// statement goes through a statement in the order in which its faults count.
func (n *namer) statement(f *function, s *tree.Statement) {
	s.Place = len(n.program.Statements)
	if s.Place == api.MaxPlaces {
		fault.Throw(api.ErrFull, s.At)
	}
	n.program.Statements = append(n.program.Statements, s)
	n.left(f, s)
	n.limits(s)
	n.named(s)
	n.right(f, s)
	for _, b := range s.Blocks {
		n.block(f, b)
	}
}

// left: what is assigned.
func (n *namer) left(f *function, s *tree.Statement) {
	if s.Left.Text == "" {
		return
	}
	if isPlain(s) && n.isVariable(&s.Left) {
		s.Kind = api.SStore
		return
	}
	n.local(f, &s.Left)
}

// limits counts the words new and go.
func (n *namer) limits(s *tree.Statement) {
	switch s.Kind {
	case api.SNew:
		n.news++
	case api.SGo:
		n.starts++
	}
	if n.news > api.MaxNews || n.starts > api.MaxGos {
		fault.Throw(api.ErrFull, s.WordAt)
	}
}

// named: the mutex, or the function with as many parameters as it is handed.
func (n *namer) named(s *tree.Statement) {
	switch s.Kind {
	case api.SLock, api.SUnlock:
		n.must(&s.Named, tree.Mutex)
	case api.SGo, api.SCall:
		n.must(&s.Named, tree.Function)
		if len(n.functions[s.Named.Number].declaration.Params) != len(s.Right) {
			fault.Throw(api.ErrArgs, s.Named.At)
		}
	}
}

// right: what stands on the right, arguments among them.
func (n *namer) right(f *function, s *tree.Statement) {
	// A store is plain no more: what it stores is a local or a number.
	if isPlain(s) && n.isVariable(&s.Right[0].Name) {
		s.Kind = api.SLoad
		return
	}
	for i := range s.Right {
		if name := &s.Right[i].Name; name.Text != "" {
			n.local(f, name)
		}
	}
}

// isPlain: one atom is assigned to a name, and neither has been found to be a variable.
func isPlain(s *tree.Statement) bool {
	return s.Kind == api.SSet && s.Op == api.ONone
}

// isVariable numbers the name, if it is a variable's.
func (n *namer) isVariable(name *tree.Name) bool {
	number, ok := n.find(name.Text, tree.Variable)
	if ok {
		name.Number = number
	}
	return ok
}

// must numbers a name that must be declared as of that kind.
func (n *namer) must(name *tree.Name, kind tree.Kind) {
	number, ok := n.find(name.Text, kind)
	if !ok {
		fault.Throw(api.ErrUse, name.At)
	}
	name.Number = number
}

// local numbers a name that must be a local's; where it is new to its function, it is one more.
func (n *namer) local(f *function, name *tree.Name) {
	if _, ok := n.declared[name.Text]; ok {
		fault.Throw(api.ErrUse, name.At)
	}
	number, ok := f.locals[name.Text]
	if !ok {
		number = len(f.locals)
		if number == api.MaxLocals {
			fault.Throw(api.ErrFull, name.At)
		}
		f.locals[name.Text] = number
	}
	name.Number = number
}
