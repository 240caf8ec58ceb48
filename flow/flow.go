// Package flow tells which statement of a program comes behind which.
package flow

import (
	"races/api"
	"races/tree"
)

// End is where a function goes on behind its last statement, and where one without statements begins.
const End = -1

// Program is a program by numbers: where its functions begin, by their numbers, and its statements, by their places.
type Program struct {
	Begins     []int
	Main       int // the number of main
	Statements []Statement
}

// Statement is a statement with the places at which it goes on: Next, but Inside behind a test that holds.
type Statement struct {
	*tree.Statement
	Next   int
	Inside int
}

// Of tells a program's flow.
func Of(source *tree.Program) *Program {
	p := &Program{Statements: make([]Statement, len(source.Statements))}
	for _, d := range source.Declarations {
		if d.Kind != tree.Function {
			continue
		}
		if d.Name.Text == "main" {
			p.Main = d.Name.Number
		}
		p.Begins = append(p.Begins, p.block(d.Body, End))
	}
	return p
}

// block tells where a block begins behind which it goes on at next. The last statement comes first, since each must know what is behind it.
func (p *Program) block(l []*tree.Statement, next int) int {
	for i := len(l) - 1; i >= 0; i-- {
		p.statement(l[i], next)
		next = l[i].Place
	}
	return next
}

func (p *Program) statement(source *tree.Statement, next int) {
	s := Statement{Statement: source, Next: next}
	switch source.Kind {
	case api.SIf:
		s.Inside = p.block(source.Blocks[0], next)
		if len(source.Blocks) > 1 {
			s.Next = p.block(source.Blocks[1], next)
		}
	case api.SWhile:
		s.Inside = p.block(source.Blocks[0], source.Place)
	}
	p.Statements[source.Place] = s
}
