// Package set: small sets of numbers, what can be come to in them, and rules that are done till nothing changes.
package set

import (
	"iter"
	"math/bits"
)

// Of is a set of numbers from 0 to 63, all of one kind. Sets are values: a | b has what either has, a & b what both have, a &^ b what a alone has.
type Of[T ~int] uint64

// One is the set of n alone.
func One[T ~int](n T) Of[T] { return 1 << n }

// Below is the set of the numbers from 0 on that are less than n.
func Below[T ~int](n T) Of[T] { return One(n) - 1 }

func (s Of[T]) Has(n T) bool { return s&One(n) != 0 }

// Len is how many numbers it has.
func (s Of[T]) Len() int { return bits.OnesCount64(uint64(s)) }

// First is the least number; no: it has none.
func (s Of[T]) First() (T, bool) { return T(bits.TrailingZeros64(uint64(s))), s != 0 }

// All tells the set's numbers, rising.
func (s Of[T]) All() iter.Seq[T] {
	return func(yield func(T) bool) {
		rest := s
		for n, ok := rest.First(); ok; n, ok = rest.First() {
			if !yield(n) {
				return
			}
			rest &^= One(n)
		}
	}
}

// Such is those of its numbers of which is says yes.
func (s Of[T]) Such(is func(T) bool) Of[T] {
	var such Of[T]
	for n := range s.All() {
		if is(n) {
			such |= One(n)
		}
	}
	return such
}

// Reach is what can be come to from begin, where next tells what comes behind each; what it begins with is come to.
func Reach[T ~int](begin Of[T], next func(T) Of[T]) Of[T] {
	reached := begin
	for fresh := begin; fresh != 0; {
		var behind Of[T]
		for n := range fresh.All() {
			behind |= next(n)
		}
		fresh = behind &^ reached
		reached |= fresh
	}
	return reached
}

// Settle does rules to a value, again and again, till they change nothing. Rules that only add come from the least value to the least that keeps to them; rules that only take away, from the greatest to the greatest.
func Settle[V comparable](v V, rules func(V) V) V {
	for next := rules(v); next != v; next = rules(v) {
		v = next
	}
	return v
}
