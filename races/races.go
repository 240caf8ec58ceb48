// Package races: programs, what may race in them, machines that run them: see DOC.md.
package races

import (
	"races/api"
	"races/fault"
	"races/flow"
	"races/grammar"
	"races/layout"
	"races/machine"
	"races/names"
	"races/report"
	"races/search"
	"races/tree"
)

// Program is a program that has been read.
type Program struct{ source *tree.Program }

// Machine is a program that runs.
type Machine struct{ inner *machine.Machine }

// Read reads a program (P3 to P5).
func Read(text string) (*Program, api.Error) {
	p := &Program{}
	err := fault.Catch(func() {
		p.source = grammar.Read(text)
		names.Resolve(p.source)
	})
	if err != nil {
		return nil, err
	}
	return p, nil
}

// empty: it is none that Read has made; the calls still answer.
func (p *Program) empty() bool { return p == nil || p.source == nil }

// Print tells the program's text, one statement a line (P5).
func (p *Program) Print() string {
	if p.empty() {
		return ""
	}
	return layout.Text(p.source)
}

// Places tells where its statements stand in the text that was read (P5).
func (p *Program) Places() []int {
	if p.empty() {
		return nil
	}
	var places []int
	for _, s := range p.source.Statements {
		places = append(places, s.At)
	}
	return places
}

// Start makes a machine ahead of main's first step (P6).
func (p *Program) Start() *Machine {
	if p.empty() {
		return &Machine{}
	}
	return &Machine{inner: machine.New(flow.Of(p.source))}
}

// Reports tells what may race, one report after another, till yield says no (P11 to P14).
func (p *Program) Reports() func(yield func(api.Report) bool) {
	return func(yield func(api.Report) bool) {
		if p.empty() || yield == nil {
			return
		}
		for r := range report.All(flow.Of(p.source)) {
			if !yield(r) {
				return
			}
		}
	}
}

// empty: it is none that Start has made of a program; the calls still answer.
func (m *Machine) empty() bool { return m == nil || m.inner == nil }

// Ready tells the threads that may make a step (P6).
func (m *Machine) Ready() []int {
	if m.empty() {
		return nil
	}
	return m.inner.Ready()
}

// Threads tells how many have been started, Objects how many have been made (P6).
func (m *Machine) Threads() int {
	if m.empty() {
		return 0
	}
	return m.inner.Threads()
}

func (m *Machine) Objects() int {
	if m.empty() {
		return 0
	}
	return m.inner.Objects()
}

// Step: the thread that c picks makes a step (P7).
func (m *Machine) Step(c int) api.Event {
	if m.empty() {
		return api.Event{Val: api.Number(0)}
	}
	return m.inner.Step(c)
}

// Copy makes a machine that stands where this one stands (P7).
func (m *Machine) Copy() *Machine {
	if m.empty() {
		return &Machine{}
	}
	return &Machine{inner: m.inner.Copy()}
}

// Run makes steps: which thread goes on choose says; see is told, and says whether to go on (P8).
func (m *Machine) Run(choose func(ready []int) int, see func(api.Event) bool) int {
	// Without one of them no step can be chosen, or none be told.
	if m.empty() || choose == nil || see == nil {
		return 0
	}
	return m.inner.Run(choose, see)
}

// Races tells the pairs of places that have raced, and which step made each (P9).
func (m *Machine) Races() map[api.Pair]int {
	if m.empty() {
		return map[api.Pair]int{}
	}
	return m.inner.Races()
}

// Search tells what may have raced so many steps from here, and behind how many at the least; workers look at a time (P10).
func (m *Machine) Search(depth int, workers int) map[api.Pair]int {
	if m.empty() {
		return map[api.Pair]int{}
	}
	return search.Ahead(m.inner, depth, workers)
}
