package runs

import "races/set"

// AllStarts is the program's, whether they may run or not.
func (p *Program) AllStarts() set.Of[Start] { return set.Below(Start(len(p.Starts))) }

// startTwice is the starts that start twice.
func (p *Program) startTwice() set.Of[Start] {
	again := p.Spots.Such(p.comesAgain)
	entered := p.enteredTwice(again)
	return p.AllStarts().Such(func(k Start) bool {
		s := p.Starts[k]
		return again.Has(s) || entered.Has(p.Function(s))
	})
}

// comesAgain: the function of a spot may come from it to it.
func (p *Program) comesAgain(s Spot) bool { return set.Reach(p.Next(s), p.Next).Has(s) }

// enteredTwice is the functions that are entered twice, where these spots may come again.
func (p *Program) enteredTwice(again set.Of[Spot]) set.Of[Function] {
	return set.Settle(0, func(twice set.Of[Function]) set.Of[Function] {
		often := again | p.In(twice)
		return set.Below(Function(len(p.Begins))).Such(func(f Function) bool { return p.entries(f, often) > 1 })
	})
}

// entries counts what enters a function: main's beginning, and what calls or starts it; what may come often counts as two.
func (p *Program) entries(f Function, often set.Of[Spot]) int {
	entering := p.Spots.Such(func(s Spot) bool {
		entered, ok := p.enters(s)
		return ok && entered == f
	})
	n := entering.Len() + (entering & often).Len()
	if f == p.Main {
		n++
	}
	return n
}

// runs is, by root, the functions that it runs.
func (p *Program) runs() []set.Of[Function] {
	l := []set.Of[Function]{p.Whole(p.Main)}
	for _, s := range p.Starts {
		var functions set.Of[Function]
		if f, ok := p.Started(s); ok && p.Spots.Has(s) {
			functions = p.Whole(f)
		}
		l = append(l, functions)
	}
	return l
}

// Whole is a function, those that it calls, those that these call, and so on.
func (p *Program) Whole(f Function) set.Of[Function] {
	return set.Reach(set.One(f), func(f Function) set.Of[Function] {
		var called set.Of[Function]
		for s := range p.In(set.One(f)).All() {
			if g, ok := p.Called(s); ok {
				called |= set.One(g)
			}
		}
		return called
	})
}

// below is, by start, those below it.
func (p *Program) below() []set.Of[Start] {
	within := func(k Start) set.Of[Start] {
		spots := p.In(p.Runs[k.Root()])
		return p.AllStarts().Such(func(k Start) bool { return spots.Has(p.Starts[k]) })
	}
	var l []set.Of[Start]
	for k := range p.AllStarts().All() {
		l = append(l, set.Reach(within(k), within))
	}
	return l
}

// RunBy is the roots that run a function.
func (p *Program) RunBy(f Function) set.Of[Root] {
	return set.Below(Root(len(p.Runs))).Such(func(r Root) bool { return p.Runs[r].Has(f) })
}
