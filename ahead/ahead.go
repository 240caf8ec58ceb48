// Package ahead tells what is so ahead of each statement: which mutexes are surely held, and which starts are about (P13).
package ahead

import (
	"races/api"
	"races/runs"
	"races/set"
)

// Line is a set ahead of each spot.
type Line[T ~int] [api.MaxPlaces + api.MaxFuncs]set.Of[T]

// ways is how sets of one kind go along a program's ways.
type ways[T ~int] struct {
	program *runs.Program
	none    set.Of[T]                      // what is so as long as no way has come
	meet    func(a, b set.Of[T]) set.Of[T] // what is so where two ways meet
}

// follow brings what is so ahead of these spots to the spots behind them, and to the functions that they call, till nothing changes.
func (w ways[T]) follow(first Line[T], spots set.Of[runs.Spot], behind func(at *Line[T], s runs.Spot) set.Of[T]) Line[T] {
	return set.Settle(first, func(at Line[T]) Line[T] {
		bring := func(to runs.Spot, what set.Of[T]) { at[to] = w.meet(at[to], what) }
		for s := range spots.All() {
			if f, ok := w.program.Called(s); ok {
				bring(w.program.Begins[f], at[s])
			}
			for next := range w.program.Next(s).All() {
				bring(next, behind(&at, s))
			}
		}
		return at
	})
}

// returned is what is so where a function returns, wherever it does.
func (w ways[T]) returned(at *Line[T], f runs.Function) set.Of[T] {
	what := w.none
	for s := range w.program.Returns(f).All() {
		what = w.meet(what, at[s])
	}
	return what
}
