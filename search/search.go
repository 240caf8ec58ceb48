// Package search looks ahead: what may have raced a few steps on (P10).
package search

import (
	"slices"
	"sync"

	"races/api"
	"races/machine"
)

// Ahead tells the races of all machines that can be come to by at most depth steps, each with the least number of steps. The machine itself is only copied.
func Ahead(m *machine.Machine, depth, workers int) map[api.Pair]int {
	depth = min(max(depth, 0), api.MaxSearch)
	workers = min(max(workers, 1), api.MaxWorkers)
	found := map[api.Pair]int{}
	level := []*machine.Machine{m}
	note(found, level, 0)
	for steps := 1; steps <= depth; steps++ {
		level = further(level, workers)
		note(found, level, steps)
	}
	return found
}

// note takes in the races of machines that are so many steps on. They come nearest first, so that what is known already stays.
func note(found map[api.Pair]int, level []*machine.Machine, steps int) {
	for _, m := range level {
		for pair := range m.Races() {
			if _, ok := found[pair]; !ok {
				found[pair] = steps
			}
		}
	}
}

// further is all machines that are one step on. There is a room for what is found behind each, so that no two workers touch one thing, and the order hangs on none of them.
func further(level []*machine.Machine, workers int) []*machine.Machine {
	rooms := make([][]*machine.Machine, len(level))
	share(len(level), workers, func(i int) { rooms[i] = behind(level[i]) })
	return slices.Concat(rooms...)
}

// share has the numbers below n looked at, each by one of so many workers that look at a time. It waits for all of them.
func share(n, workers int, look func(i int)) {
	var looking sync.WaitGroup
	for first := range min(workers, n) {
		looking.Add(1)
		go func() {
			defer looking.Done()
			for i := first; i < n; i += workers {
				look(i)
			}
		}()
	}
	looking.Wait()
}

// behind is what becomes of a machine, whoever goes on.
func behind(m *machine.Machine) []*machine.Machine {
	var l []*machine.Machine
	for c := range m.Ready() {
		next := m.Copy()
		next.Step(c)
		l = append(l, next)
	}
	return l
}
