package order

import (
	"maps"
	"testing"

	"races/api"
)

func store(thread, place int) api.Event {
	return api.Event{Thread: thread, Kind: api.SStore, Place: place, Obj: -1}
}

// seen: an order that has taken in those events.
func seen(events ...api.Event) *Order {
	o := New()
	for _, e := range events {
		o.See(e)
	}
	return o
}

func is(t *testing.T, o *Order, want map[api.Pair]int) {
	t.Helper()
	if got := o.Races(); !maps.Equal(got, want) {
		t.Errorf("races %v, want %v", got, want)
	}
}

func TestP9PairsRise(t *testing.T) {
	start := api.Event{Kind: api.SGo, Place: 9, Obj: 1}
	is(t, seen(start, store(0, 3), store(1, 7)), map[api.Pair]int{{A: 3, B: 7}: 3})
	is(t, seen(start, store(1, 7), store(0, 3)), map[api.Pair]int{{A: 3, B: 7}: 3})
	is(t, seen(start, store(0, 7), store(1, 3)), map[api.Pair]int{{A: 3, B: 7}: 3})
	is(t, seen(start, store(0, 3), store(1, 3)), map[api.Pair]int{{A: 3, B: 3}: 3})
	is(t, seen(store(0, 3), start, store(1, 7)), map[api.Pair]int{})
}

// TestP9LastTouchIsEnough: a touch that is in order does not hide a later one that is not.
func TestP9LastTouchIsEnough(t *testing.T) {
	lock := func(thread int) api.Event { return api.Event{Thread: thread, Kind: api.SLock, Obj: -1} }
	unlock := func(thread int) api.Event { return api.Event{Thread: thread, Kind: api.SUnlock, Obj: -1} }
	start := api.Event{Kind: api.SGo, Place: 9, Obj: 1}
	o := seen(start, store(1, 2), lock(1), unlock(1), lock(0), unlock(0), store(0, 4))
	is(t, o, map[api.Pair]int{})
	o.See(store(1, 2))
	is(t, o, map[api.Pair]int{{A: 2, B: 4}: 8})
	o = seen(start, store(1, 2), lock(1), unlock(1), store(1, 2), lock(0), unlock(0), store(0, 4))
	is(t, o, map[api.Pair]int{{A: 2, B: 4}: 8})
}

// TestP9CopiesShareNothing: each rule, by a copy, leaves the other's knowledge as it was.
func TestP9CopiesShareNothing(t *testing.T) {
	o := seen(api.Event{Kind: api.SGo, Obj: 1}, store(1, 2), api.Event{Thread: 1, Kind: api.SLock, Obj: -1})
	c := o.Copy()
	c.See(api.Event{Thread: 1, Kind: api.SUnlock, Obj: -1})
	for _, x := range []*Order{c, o} {
		x.See(api.Event{Kind: api.SLock, Obj: -1})
		x.See(store(0, 4))
	}
	is(t, c, map[api.Pair]int{})
	is(t, o, map[api.Pair]int{{A: 2, B: 4}: 5})
	d := o.Copy()
	d.See(store(1, 6))
	is(t, o, map[api.Pair]int{{A: 2, B: 4}: 5})
	is(t, d, map[api.Pair]int{{A: 2, B: 4}: 5, {A: 4, B: 6}: 6})
	o.See(store(0, 8))
	is(t, o, map[api.Pair]int{{A: 2, B: 4}: 5, {A: 2, B: 8}: 6})
}

// TestP9AllOfAThread: its very last event is before its join, too.
func TestP9AllOfAThread(t *testing.T) {
	o := seen(api.Event{Kind: api.SGo, Obj: 1}, store(1, 2), api.Event{Kind: api.SJoin, Obj: 1}, store(0, 4))
	is(t, o, map[api.Pair]int{})
}
