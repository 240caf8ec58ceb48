// Package order tells which of a machine's events happen before which, and what has raced (P9).
package order

import (
	"maps"

	"races/api"
)

// Order is what has to be known of a machine's events so far.
type Order struct {
	steps   int
	threads map[int]clock
	mutexes map[int]clock // by mutex: what its last unlock knew
	touched map[touch]int // how manieth step of its thread the last such touch was
	raced   map[api.Pair]int
}

// clock tells how many steps of each thread happen before something. A thread's steps happen one before the other, so a number is enough.
type clock map[int]int

// touch is an access: whose, at which place, of which kind, and to what: a variable (object is -1) or a field.
type touch struct {
	thread, place, kind int
	object, field       int
}

// New is the order of a machine at its start.
func New() *Order {
	return &Order{
		threads: map[int]clock{0: {}},
		mutexes: map[int]clock{},
		touched: map[touch]int{},
		raced:   map[api.Pair]int{},
	}
}

// Copy is an order of its own that knows the same.
func (o *Order) Copy() *Order {
	return &Order{
		steps:   o.steps,
		threads: cloned(o.threads),
		mutexes: cloned(o.mutexes),
		touched: maps.Clone(o.touched),
		raced:   maps.Clone(o.raced),
	}
}

func cloned(clocks map[int]clock) map[int]clock {
	l := map[int]clock{}
	for k, c := range clocks {
		l[k] = maps.Clone(c)
	}
	return l
}

// Races tells what has raced, with the number of the step that made it.
func (o *Order) Races() map[api.Pair]int { return maps.Clone(o.raced) }

// See takes in the next event of the machine.
func (o *Order) See(e api.Event) {
	o.steps++
	now := o.threads[e.Thread]
	now[e.Thread]++
	switch e.Kind {
	case api.SGo:
		o.threads[e.Obj] = maps.Clone(now)
	case api.SJoin:
		now.learn(o.threads[e.Obj])
	case api.SLock:
		now.learn(o.mutexes[e.Field])
	case api.SUnlock:
		// It knows what earlier unlocks knew, by the lock ahead of it: the last one is enough.
		o.mutexes[e.Field] = maps.Clone(now)
	case api.SLoad, api.SStore, api.SGet, api.SPut:
		o.access(e, now)
	}
}

// learn: what happens before the other happens before this now.
func (c clock) learn(other clock) {
	for thread, n := range other {
		c[thread] = max(c[thread], n)
	}
}

// access finds the races that an access makes with those ahead of it.
func (o *Order) access(e api.Event, now clock) {
	t := touch{thread: e.Thread, place: e.Place, kind: e.Kind, object: e.Obj, field: e.Field}
	for other, n := range o.touched {
		if t.conflicts(other) && n > now[other.thread] {
			o.race(t.place, other.place)
		}
	}
	o.touched[t] = now[t.thread]
}

// conflicts: two threads touch one thing, and one of them writes.
func (t touch) conflicts(other touch) bool {
	same := t.object == other.object && t.field == other.field
	return same && t.thread != other.thread && (t.writes() || other.writes())
}

func (t touch) writes() bool { return t.kind == api.SStore || t.kind == api.SPut }

func (o *Order) race(a, b int) {
	pair := api.Pair{A: min(a, b), B: max(a, b)}
	if _, ok := o.raced[pair]; !ok {
		o.raced[pair] = o.steps
	}
}
