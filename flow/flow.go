// Package flow tells which statement of a program comes behind which.
package flow

import (
	"races/api"
	"races/tree"
)

// End is where a function goes on behind its last statement, and where one without statements begins.
const End = -1

// Program is a program by numbers: where its functions begin, by their numbers, and its statements, by their places.
type Program struct {
	Begins     []int
	Main       int // the number of main
	Mutexes    int // how many there are
	Statements []Statement
}

// Statement is a statement with the number of its function, and the places at which it goes on: Next, but Inside behind a test that holds.
type Statement struct {
	*tree.Statement
	Function int
	Next     int
	Inside   int
}

// Of tells a program's flow.
func Of(source *tree.Program) *Program {
	p := &Program{Statements: make([]Statement, len(source.Statements))}
	for _, d := range source.Declarations {
		switch d.Kind {
		case tree.Mutex:
			p.Mutexes++
		case tree.Function:
			if d.Name.Text == "main" {
				p.Main = d.Name.Number
			}
			p.Begins = append(p.Begins, p.block(d.Name.Number, d.Body, End))
		}
	}
	return p
}

// block tells where a function's block begins behind which it goes on at next. The last statement comes first, since each must know what is behind it.
func (p *Program) block(function int, l []*tree.Statement, next int) int {
	for i := len(l) - 1; i >= 0; i-- {
		p.statement(function, l[i], next)
		next = l[i].Place
	}
	return next
}

func (p *Program) statement(function int, source *tree.Statement, next int) {
	s := Statement{Statement: source, Function: function, Next: next}
	switch source.Kind {
	case api.SIf:
		s.Inside = p.block(function, source.Blocks[0], next)
		if len(source.Blocks) > 1 {
			s.Next = p.block(function, source.Blocks[1], next)
		}
	case api.SWhile:
		s.Inside = p.block(function, source.Blocks[0], source.Place)
	}
	p.Statements[source.Place] = s
}
