// Package runs tells what of a program may run, whether more than once, and by whom (P11).
package runs

import (
	"slices"

	"races/api"
	"races/flow"
	"races/set"
	"races/tree"
)

// The numbers of a program's parts: each kind is a type of its own, so that none is taken for another.
type (
	Spot     int // a statement's place or, behind all places, a function's end
	Function int
	Start    int // of a go statement among all of them, from the left
	Root     int
)

// Main is the root that runs from the beginning.
const Main Root = 0

// Root is what the start starts.
func (s Start) Root() Root { return Root(s) + 1 }

// Start is what starts the root, which is not Main.
func (r Root) Start() Start { return Start(r) - 1 }

// Program is a program by its spots, with what may run of it.
type Program struct {
	Main       Function
	Mutexes    int                // how many there are
	Begins     []Spot             // by function
	Statements []flow.Statement   // by spot; a function's end is a return
	Starts     []Spot             // by start: where it stands
	Spots      set.Of[Spot]       // those that may run
	Twice      set.Of[Start]      // those that start twice
	Runs       []set.Of[Function] // by root: what it runs
	Below      []set.Of[Start]    // by start: those below it
	ends       Spot               // how many places there are ahead of the functions' ends
}

// Of works out what of a program may run.
func Of(source *flow.Program) *Program {
	p := &Program{
		Main:       Function(source.Main),
		Mutexes:    source.Mutexes,
		Statements: slices.Clone(source.Statements),
		ends:       Spot(len(source.Statements)),
	}
	for f, place := range source.Begins {
		p.Begins = append(p.Begins, p.spot(Function(f), place))
		end := flow.Statement{Statement: &tree.Statement{Kind: api.SReturn}, Function: f}
		p.Statements = append(p.Statements, end)
	}
	for i, s := range source.Statements {
		if s.Kind == api.SGo {
			p.Starts = append(p.Starts, Spot(i))
		}
	}
	p.Spots = set.Reach(set.One(p.Begins[p.Main]), p.come)
	p.Twice = p.startTwice()
	p.Runs = p.runs()
	p.Below = p.below()
	return p
}

// spot is where a function goes on at that place.
func (p *Program) spot(f Function, place int) Spot {
	if place == flow.End {
		return p.ends + Spot(f)
	}
	return Spot(place)
}

// Function is the one in which a spot is.
func (p *Program) Function(s Spot) Function { return Function(p.Statements[s].Function) }

// Next is what may follow a spot in its function.
func (p *Program) Next(s Spot) set.Of[Spot] {
	statement := p.Statements[s]
	next := set.One(p.spot(p.Function(s), statement.Next))
	switch statement.Kind {
	case api.SReturn:
		return 0
	case api.SIf, api.SWhile:
		return next | set.One(p.spot(p.Function(s), statement.Inside))
	}
	return next
}

// come is where the program may come to from a spot: behind it in its function, and to a function that it calls or starts.
func (p *Program) come(s Spot) set.Of[Spot] {
	next := p.Next(s)
	if f, ok := p.enters(s); ok {
		next |= set.One(p.Begins[f])
	}
	return next
}

// enters is the function that a spot calls or starts.
func (p *Program) enters(s Spot) (Function, bool) {
	if f, ok := p.Called(s); ok {
		return f, true
	}
	return p.Started(s)
}

// Called is the function that a spot calls.
func (p *Program) Called(s Spot) (Function, bool) { return p.named(s, api.SCall) }

// Started is the function that a spot starts.
func (p *Program) Started(s Spot) (Function, bool) { return p.named(s, api.SGo) }

// named is the function that a spot names, if it is a statement of that kind.
func (p *Program) named(s Spot, kind int) (Function, bool) {
	statement := p.Statements[s]
	return Function(statement.Named.Number), statement.Kind == kind
}

// StartAt is the start that stands at a spot.
func (p *Program) StartAt(s Spot) (Start, bool) {
	k := slices.Index(p.Starts, s)
	return Start(k), k >= 0
}

// In is the spots of these functions that may run.
func (p *Program) In(functions set.Of[Function]) set.Of[Spot] {
	return p.Spots.Such(func(s Spot) bool { return functions.Has(p.Function(s)) })
}

// Returns is where a function may return.
func (p *Program) Returns(f Function) set.Of[Spot] {
	return p.In(set.One(f)).Such(func(s Spot) bool { return p.Statements[s].Kind == api.SReturn })
}
