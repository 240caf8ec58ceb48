package ahead

import (
	"races/api"
	"races/runs"
	"races/set"
)

// Mutex is a mutex's number.
type Mutex int

// Held is the mutexes that are surely held ahead of each spot that may run.
func Held(p *runs.Program) Line[Mutex] {
	w := ways[Mutex]{
		program: p,
		none:    set.Below(Mutex(p.Mutexes)),
		meet:    func(a, b set.Of[Mutex]) set.Of[Mutex] { return a & b },
	}
	unlocked := mayUnlock(p)
	return w.follow(heldAtFirst(p, w.none), p.Spots, func(at *Line[Mutex], s runs.Spot) set.Of[Mutex] {
		switch p.Statements[s].Kind {
		case api.SLock:
			return at[s] | named(p, s)
		case api.SUnlock:
			return at[s] &^ named(p, s)
		}
		if f, ok := p.Called(s); ok {
			return w.returned(at, f) | at[s]&^unlocked[f]
		}
		return at[s]
	})
}

// named is the mutex that a lock or an unlock names.
func named(p *runs.Program, s runs.Spot) set.Of[Mutex] {
	return set.One(Mutex(p.Statements[s].Named.Number))
}

// heldAtFirst is all mutexes everywhere, but nothing where threads begin: the greatest sets are come to by taking away.
func heldAtFirst(p *runs.Program, all set.Of[Mutex]) Line[Mutex] {
	var at Line[Mutex]
	for s := range p.Spots.All() {
		at[s] = all
	}
	at[p.Begins[p.Main]] = 0
	for s := range p.Spots.All() {
		if f, ok := p.Started(s); ok {
			at[p.Begins[f]] = 0
		}
	}
	return at
}

// mayUnlock is, by function, the mutexes that it, or one that it calls, and so on, may unlock.
func mayUnlock(p *runs.Program) []set.Of[Mutex] {
	l := make([]set.Of[Mutex], len(p.Begins))
	for f := range l {
		for s := range p.In(p.Whole(runs.Function(f))).All() {
			if p.Statements[s].Kind == api.SUnlock {
				l[f] |= named(p, s)
			}
		}
	}
	return l
}
