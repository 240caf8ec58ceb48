package ahead

import (
	"races/api"
	"races/holds"
	"races/runs"
	"races/set"
)

// About is the starts that are about ahead of each spot that main may run.
func About(p *runs.Program, held *holds.Program) Line[runs.Start] {
	w := ways[runs.Start]{
		program: p,
		meet:    func(a, b set.Of[runs.Start]) set.Of[runs.Start] { return a | b },
	}
	spots := p.In(p.Runs[runs.Main])
	return w.follow(Line[runs.Start]{}, spots, func(at *Line[runs.Start], s runs.Spot) set.Of[runs.Start] {
		if k, ok := p.StartAt(s); ok {
			return at[s] | set.One(k) | p.Below[k]
		}
		if f, ok := p.Called(s); ok {
			return w.returned(at, f)
		}
		return at[s] &^ joined(p, held, s)
	})
}

// joined is the start whose one thread has surely ended behind a spot, if that is a join and there is such a start.
func joined(p *runs.Program, held *holds.Program, s runs.Spot) set.Of[runs.Start] {
	statement := p.Statements[s]
	if statement.Kind != api.SJoin {
		return 0
	}
	threads := held.Local(s, statement.Right[0].Name).Threads
	if threads.Len() != 1 {
		return 0
	}
	return threads &^ p.Twice
}
