// Package machine runs programs, one statement a step (P6 to P8).
package machine

import (
	"maps"
	"slices"

	"races/api"
	"races/flow"
	"races/order"
	"races/tree"
)

// Machine is a program that runs.
type Machine struct {
	program *flow.Program
	threads []*thread
	objects int
	holds   map[cell]api.Value // what is not in it holds 0
	holders map[int]int        // by mutex: the thread that holds it; none: nobody
	order   *order.Order
}

// cell is what threads share and can write: a variable (object is -1) or an object's field.
type cell struct{ object, field int }

// thread is what a thread is in the midst of, the innermost function last; nothing: it has ended.
type thread struct{ frames []frame }

// frame is a function that goes on: the place at which it stands, and what its locals hold. It stands at a call till that is done.
type frame struct {
	place  int
	locals [api.MaxLocals]api.Value
}

// New is a machine ahead of main's first statement.
func New(p *flow.Program) *Machine {
	m := &Machine{program: p, holds: map[cell]api.Value{}, holders: map[int]int{}, order: order.New()}
	m.threads = []*thread{{frames: []frame{m.begin(p.Main, nil)}}}
	return m
}

// begin is a function at its beginning.
func (m *Machine) begin(function int, arguments []api.Value) frame {
	f := frame{place: m.program.Begins[function]}
	for i := range f.locals {
		f.locals[i] = api.Number(0)
	}
	copy(f.locals[:], arguments)
	return f
}

// Copy is a machine of its own that stands where this one stands.
func (m *Machine) Copy() *Machine {
	c := *m
	c.threads = nil
	for _, t := range m.threads {
		c.threads = append(c.threads, &thread{frames: slices.Clone(t.frames)})
	}
	c.holds = maps.Clone(m.holds)
	c.holders = maps.Clone(m.holders)
	c.order = m.order.Copy()
	return &c
}

// Threads tells how many have been started, Objects how many have been made.
func (m *Machine) Threads() int { return len(m.threads) }

func (m *Machine) Objects() int { return m.objects }

// Races tells what has raced, with the number of the step that made it.
func (m *Machine) Races() map[api.Pair]int { return m.order.Races() }

// Ready tells the threads that can make a step, rising.
func (m *Machine) Ready() []int {
	var ready []int
	for i, t := range m.threads {
		if m.isReady(t) {
			ready = append(ready, i)
		}
	}
	return ready
}

func (m *Machine) isReady(t *thread) bool {
	if t.ended() {
		return false
	}
	place := t.top().place
	if place == flow.End {
		return true
	}
	s := m.program.Statements[place]
	switch s.Kind {
	case api.SLock:
		_, held := m.holders[s.Named.Number]
		return !held
	case api.SJoin:
		// A join of what is no thread waits for nothing: it fails.
		other, ok := t.value(s.Right[0]).(api.Thread)
		return !ok || m.threads[other].ended()
	}
	return true
}

func (t *thread) ended() bool { return len(t.frames) == 0 }

func (t *thread) top() *frame { return &t.frames[len(t.frames)-1] }

// value is what an atom is to the thread.
func (t *thread) value(a tree.Atom) api.Value {
	if a.Name.Text == "" {
		return api.Number(a.Number)
	}
	return t.top().locals[a.Name.Number]
}

func (t *thread) values(l []tree.Atom) []api.Value {
	var values []api.Value
	for _, a := range l {
		values = append(values, t.value(a))
	}
	return values
}

// assign sets a local, if there is one to be set.
func (t *thread) assign(name tree.Name, v api.Value) {
	if name.Text != "" {
		t.top().locals[name.Number] = v
	}
}

// Step: the ready thread that c picks does its next statement.
func (m *Machine) Step(c int) api.Event {
	ready := m.Ready()
	if len(ready) == 0 {
		return api.Event{Val: api.Number(0)}
	}
	e := m.step(ready[pick(c, len(ready))])
	m.order.See(e)
	return e
}

// pick: which of n things a number picks.
func pick(c, n int) int {
	if c < 0 {
		c = -1 - c
	}
	return c % n
}

// Run makes steps as choose says, till no thread is ready or see says no. It tells how many.
func (m *Machine) Run(choose func(ready []int) int, see func(api.Event) bool) int {
	steps := 0
	for ready := m.Ready(); len(ready) > 0; ready = m.Ready() {
		e := m.Step(choose(ready))
		steps++
		if !see(e) {
			break
		}
	}
	return steps
}
