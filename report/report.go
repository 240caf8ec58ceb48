// Package report tells which accesses of a program may race in any run (P14).
package report

import (
	"iter"

	"races/ahead"
	"races/api"
	"races/flow"
	"races/holds"
	"races/runs"
	"races/set"
)

// reporter knows what reports are made of.
type reporter struct {
	program  *runs.Program
	accesses []access
	held     ahead.Line[ahead.Mutex]
	about    ahead.Line[runs.Start]
}

// All tells a program's reports, in their order. It works them out anew whenever it is ranged over, and keeps nothing.
func All(source *flow.Program) iter.Seq[api.Report] {
	return func(yield func(api.Report) bool) {
		r := newReporter(source)
		for a, b := range r.pairs() {
			if one, ok := r.report(a, b); ok && !yield(one) {
				return
			}
		}
	}
}

func newReporter(source *flow.Program) *reporter {
	p := runs.Of(source)
	h := holds.Of(p)
	return &reporter{program: p, accesses: accesses(p, h), held: ahead.Held(p), about: ahead.About(p, h)}
}

// pairs tells each access with itself and with those behind it.
func (r *reporter) pairs() iter.Seq2[access, access] {
	return func(yield func(a, b access) bool) {
		for i, a := range r.accesses {
			for _, b := range r.accesses[i:] {
				if !yield(a, b) {
					return
				}
			}
		}
	}
}

// report tells of a pair that may race; no: it may not.
func (r *reporter) report(a, b access) (api.Report, bool) {
	heldA, heldB := r.held[a.spot], r.held[b.spot]
	if !a.writes && !b.writes || heldA&heldB != 0 {
		return api.Report{}, false
	}
	made, touched := touch(a, b)
	rootA, rootB, together := r.roots(a.spot, b.spot)
	if !touched || !together {
		return api.Report{}, false
	}
	return api.Report{
		A: int(a.spot), B: int(b.spot),
		New: made, Field: a.number,
		RootA: int(rootA), RootB: int(rootB),
		LocksA: numbers(heldA), LocksB: numbers(heldB),
	}, true
}

// numbers is a set's, rising, in a list of its own.
func numbers(s set.Of[ahead.Mutex]) []int {
	var l []int
	for m := range s.All() {
		l = append(l, int(m))
	}
	return l
}
