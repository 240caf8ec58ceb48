// Package holds tells what locals, variables and fields may hold, and what is shared (P12).
package holds

import (
	"races/api"
	"races/flow"
	"races/runs"
	"races/set"
	"races/tree"
)

// Thing is the number of the new statement that makes something, among all of them, from the left.
type Thing int

// Held is what may be held: things, and the threads of starts.
type Held struct {
	Things  set.Of[Thing]
	Threads set.Of[runs.Start]
}

func (h *Held) add(other Held) {
	h.Things |= other.Things
	h.Threads |= other.Threads
}

// cells is what all that can hold something may hold. It is a value, so that two can be compared.
type cells struct {
	locals    [api.MaxFuncs][api.MaxLocals]Held
	variables [api.MaxVars]Held
	fields    [api.MaxNews][2]Held // by thing and side
	returned  [api.MaxFuncs]Held
}

// Program is what may be held in a program.
type Program struct {
	Shared set.Of[Thing]
	source *runs.Program
	made   map[runs.Spot]Thing // by new statement
	cells  cells
}

// Of works out what may be held by the statements that may run.
func Of(source *runs.Program) *Program {
	p := &Program{source: source, made: map[runs.Spot]Thing{}}
	for i, s := range source.Statements {
		if s.Kind == api.SNew {
			p.made[runs.Spot(i)] = Thing(len(p.made))
		}
	}
	p.cells = set.Settle(cells{}, func(c cells) cells {
		for s := range source.Spots.All() {
			p.do(&c, s)
		}
		return c
	})
	p.Shared = p.shared()
	return p
}

// atom is what an atom of a spot may hold: a number nothing.
func (c *cells) atom(function int, a tree.Atom) Held {
	if a.Name.Text == "" {
		return Held{}
	}
	return c.locals[function][a.Name.Number]
}

// give: what the statement assigns to, if anything, is a local of its function; it may hold these too.
func (c *cells) give(s flow.Statement, h Held) {
	if s.Left.Text != "" {
		c.locals[s.Function][s.Left.Number].add(h)
	}
}

// do adds what may be held by the statement at a spot.
func (p *Program) do(c *cells, spot runs.Spot) {
	s := p.source.Statements[spot]
	switch s.Kind {
	case api.SSet:
		if s.Op == api.ONone {
			c.give(s, c.atom(s.Function, s.Right[0]))
		}
	case api.SLoad:
		c.give(s, c.variables[s.Right[0].Name.Number])
	case api.SStore:
		c.variables[s.Left.Number].add(c.atom(s.Function, s.Right[0]))
	case api.SGet:
		for thing := range c.atom(s.Function, s.Right[0]).Things.All() {
			c.give(s, c.fields[thing][s.Side])
		}
	case api.SPut:
		for thing := range c.locals[s.Function][s.Left.Number].Things.All() {
			c.fields[thing][s.Side].add(c.atom(s.Function, s.Right[0]))
		}
	case api.SNew:
		c.give(s, Held{Things: set.One(p.made[spot])})
	case api.SGo:
		c.handOver(s)
		if k, ok := p.source.StartAt(spot); ok {
			c.give(s, Held{Threads: set.One(k)})
		}
	case api.SCall:
		c.handOver(s)
		c.give(s, c.returned[s.Named.Number])
	case api.SReturn:
		for _, a := range s.Right {
			c.returned[s.Function].add(c.atom(s.Function, a))
		}
	}
}

// handOver: parameters, which are a function's first locals, hold what the arguments hold.
func (c *cells) handOver(s flow.Statement) {
	for i, a := range s.Right {
		c.locals[s.Named.Number][i].add(c.atom(s.Function, a))
	}
}

// shared is the things that more than one thread may come by.
func (p *Program) shared() set.Of[Thing] {
	var first Held
	for _, h := range p.cells.variables {
		first.add(h)
	}
	for _, spot := range p.source.Starts {
		if !p.source.Spots.Has(spot) {
			continue
		}
		s := p.source.Statements[spot]
		for _, a := range s.Right {
			first.add(p.cells.atom(s.Function, a))
		}
	}
	return set.Reach(first.Things, func(t Thing) set.Of[Thing] {
		return p.cells.fields[t][0].Things | p.cells.fields[t][1].Things
	})
}

// Local is what a local may hold that is named in the statement at a spot.
func (p *Program) Local(spot runs.Spot, name tree.Name) Held {
	return p.cells.locals[p.source.Function(spot)][name.Number]
}
