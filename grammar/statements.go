package grammar

import (
	"races/api"
	"races/tree"
	"races/words"
)

func (r *reader) statement() *tree.Statement {
	s := &tree.Statement{At: r.word.At}
	switch {
	case r.skip("if"):
		r.branch(s)
	case r.skip("while"):
		r.loop(s)
	default:
		r.simple(s)
		r.expect(";")
	}
	return s
}

func (r *reader) branch(s *tree.Statement) {
	s.Kind = api.SIf
	s.Right = []tree.Atom{r.atom()}
	s.Blocks = append(s.Blocks, r.block())
	if r.skip("else") {
		s.Blocks = append(s.Blocks, r.block())
	}
}

func (r *reader) loop(s *tree.Statement) {
	s.Kind = api.SWhile
	s.Right = []tree.Atom{r.atom()}
	s.Blocks = append(s.Blocks, r.block())
}

// simple reads a statement without blocks, up to its semicolon.
func (r *reader) simple(s *tree.Statement) {
	switch {
	case r.word.Kind == words.Name:
		r.named(s)
	case r.is("go"):
		r.start(s)
	case r.skip("join"):
		s.Kind = api.SJoin
		s.Right = []tree.Atom{{Name: r.name()}}
	case r.skip("lock"):
		s.Kind = api.SLock
		s.Named = r.name()
	case r.skip("unlock"):
		s.Kind = api.SUnlock
		s.Named = r.name()
	case r.skip("return"):
		s.Kind = api.SReturn
		if !r.is(";") {
			s.Right = []tree.Atom{r.atom()}
		}
	default:
		r.refuse()
	}
}

// named reads a statement that begins with a name.
func (r *reader) named(s *tree.Statement) {
	n := r.name()
	switch {
	case r.is("("):
		r.call(s, n)
	case r.skip("."):
		s.Kind = api.SPut
		s.Left = n
		s.Side = r.side()
		r.expect("=")
		s.Right = []tree.Atom{r.atom()}
	default:
		r.expect("=")
		s.Left = n
		r.assigned(s)
	}
}

// assigned reads what stands behind the sign of an assignment to a name.
func (r *reader) assigned(s *tree.Statement) {
	switch {
	case r.is("go"):
		r.start(s)
	case r.is("new"):
		s.Kind = api.SNew
		s.WordAt = r.word.At
		r.next()
	case r.word.Kind == words.Name:
		r.assignedName(s)
	default:
		r.sum(s, r.atom())
	}
}

func (r *reader) assignedName(s *tree.Statement) {
	n := r.name()
	switch {
	case r.is("("):
		r.call(s, n)
	case r.skip("."):
		s.Kind = api.SGet
		s.Right = []tree.Atom{{Name: n}}
		s.Side = r.side()
	default:
		r.sum(s, tree.Atom{Name: n})
	}
}

// sum reads what may stand behind an atom that is assigned: an operator and another atom.
func (r *reader) sum(s *tree.Statement, first tree.Atom) {
	s.Kind = api.SSet
	s.Right = []tree.Atom{first}
	switch {
	case r.skip("+"):
		s.Op = api.OPlus
	case r.skip("-"):
		s.Op = api.OMinus
	case r.skip("<"):
		s.Op = api.OLess
	case r.skip("=="):
		s.Op = api.OSame
	default:
		return
	}
	s.Right = append(s.Right, r.atom())
}

func (r *reader) start(s *tree.Statement) {
	s.WordAt = r.word.At
	r.next()
	r.call(s, r.name())
	s.Kind = api.SGo
}

// call reads the arguments behind a function's name.
func (r *reader) call(s *tree.Statement, function tree.Name) {
	s.Kind = api.SCall
	s.Named = function
	s.Right = list(r, r.atom)
}
