package report

import (
	"races/runs"
	"races/set"
)

// roots tells the first two roots that may run these spots at a time; no: there are none.
func (r *reporter) roots(a, b runs.Spot) (runs.Root, runs.Root, bool) {
	for rootA := range r.runBy(a).All() {
		for rootB := range r.runBy(b).All() {
			if r.atATime(rootA, a, rootB, b) {
				return rootA, rootB, true
			}
		}
	}
	return 0, 0, false
}

// runBy is the roots that run a spot's function.
func (r *reporter) runBy(s runs.Spot) set.Of[runs.Root] {
	return r.program.RunBy(r.program.Function(s))
}

// atATime: one root may be at a while the other one is at b.
func (r *reporter) atATime(rootA runs.Root, a runs.Spot, rootB runs.Root, b runs.Spot) bool {
	switch {
	case rootA == rootB:
		return rootA != runs.Main && r.program.Twice.Has(rootA.Start())
	case rootA == runs.Main:
		return r.about[a].Has(rootB.Start())
	case rootB == runs.Main:
		return r.about[b].Has(rootA.Start())
	}
	return r.aboutAt(rootA.Start()).Has(rootB.Start()) || r.aboutAt(rootB.Start()).Has(rootA.Start())
}

// aboutAt is the starts that are about where a start starts: where another root than main may start it, all of them, since only main's way has been followed.
func (r *reporter) aboutAt(k runs.Start) set.Of[runs.Start] {
	s := r.program.Starts[k]
	if r.runBy(s) == set.One(runs.Main) {
		return r.about[s]
	}
	return r.program.AllStarts()
}
