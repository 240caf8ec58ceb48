package report

import (
	"races/api"
	"races/holds"
	"races/runs"
	"races/set"
	"races/tree"
)

// access is a statement that reads or writes a variable, or a field.
type access struct {
	spot   runs.Spot
	writes bool
	kind   kind
	number int                 // the variable's; of a field 0 for l, 1 for r
	things set.Of[holds.Thing] // the shared things whose field it may be
}

// kind tells what is read or written.
type kind int

const (
	variable kind = iota
	field
)

// accesses is those that may run, in order.
func accesses(p *runs.Program, held *holds.Program) []access {
	var l []access
	for spot := range p.Spots.All() {
		s := p.Statements[spot]
		shared := func(object tree.Name) set.Of[holds.Thing] {
			return held.Local(spot, object).Things & held.Shared
		}
		switch s.Kind {
		case api.SLoad:
			l = append(l, access{spot: spot, number: s.Right[0].Name.Number})
		case api.SStore:
			l = append(l, access{spot: spot, writes: true, number: s.Left.Number})
		case api.SGet:
			l = append(l, access{spot: spot, kind: field, number: s.Side, things: shared(s.Right[0].Name)})
		case api.SPut:
			l = append(l, access{spot: spot, writes: true, kind: field, number: s.Side, things: shared(s.Left)})
		}
	}
	return l
}

// touch tells the first thing that both may touch, as reports name it: -1 for a variable; no: there is none.
func touch(a, b access) (int, bool) {
	if a.kind != b.kind || a.number != b.number {
		return 0, false
	}
	if a.kind == variable {
		return -1, true
	}
	thing, ok := (a.things & b.things).First()
	return int(thing), ok
}
