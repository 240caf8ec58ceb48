package set

import (
	"slices"
	"testing"
)

type count int

func of(l ...count) Of[count] {
	var s Of[count]
	for _, n := range l {
		s |= One(n)
	}
	return s
}

// TestSets: from no numbers to all that there can be.
func TestSets(t *testing.T) {
	full := Below[count](63) | One[count](63)
	for _, l := range [][]count{nil, {0}, {63}, {0, 1, 63}, {5, 17, 31, 32}, slices.Collect(full.All())} {
		s := of(l...)
		if got := slices.Collect(s.All()); !slices.Equal(got, l) || s.Len() != len(l) {
			t.Errorf("%v has %v, %d in all", l, got, s.Len())
		}
		for n := range full.All() {
			if s.Has(n) != slices.Contains(l, n) {
				t.Errorf("%v has %d: %v", l, n, s.Has(n))
			}
		}
		if first, ok := s.First(); ok != (len(l) > 0) || ok && first != l[0] {
			t.Errorf("the first of %v is %d, %v", l, first, ok)
		}
	}
	if full.Len() != 64 || Below[count](0) != 0 || Below[count](3) != of(0, 1, 2) {
		t.Errorf("%v, %v, %v", full, Below[count](0), Below[count](3))
	}
	if got := Below[count](9).Such(func(n count) bool { return n%3 == 1 }); got != of(1, 4, 7) {
		t.Errorf("such are %v", slices.Collect(got.All()))
	}
}

// TestAllAgain: it may stop early, and be ranged over again.
func TestAllAgain(t *testing.T) {
	all := of(2, 4, 6).All()
	for most := 1; most <= 4; most++ {
		var l []count
		for n := range all {
			l = append(l, n)
			if len(l) == most {
				break
			}
		}
		if want := []count{2, 4, 6}[:min(most, 3)]; !slices.Equal(l, want) {
			t.Errorf("%v, want %v", l, want)
		}
	}
}

// TestReach: by any number of steps, around circles too; each number is asked once.
func TestReach(t *testing.T) {
	next := map[count]Of[count]{0: of(1, 2), 1: of(3), 3: of(1), 4: of(0), 5: of(5), 6: of(7), 7: of(8), 8: of(9)}
	for _, c := range []struct{ begin, want Of[count] }{
		{0, 0},
		{of(2), of(2)},
		{of(0), of(0, 1, 2, 3)},
		{of(1), of(1, 3)},
		{of(5), of(5)},
		{of(4, 6), of(0, 1, 2, 3, 4, 6, 7, 8, 9)},
	} {
		asked := map[count]int{}
		got := Reach(c.begin, func(n count) Of[count] {
			asked[n]++
			return next[n]
		})
		if got != c.want {
			t.Errorf("from %v to %v", slices.Collect(c.begin.All()), slices.Collect(got.All()))
		}
		for n, times := range asked {
			if times != 1 {
				t.Errorf("%d is asked %d times", n, times)
			}
		}
	}
}

// TestSettle: till nothing changes, and no longer, with values of any kind that can be compared.
func TestSettle(t *testing.T) {
	done := 0
	if got := Settle(1, func(n int) int { done++; return min(2*n, 100) }); got != 100 || done != 8 {
		t.Errorf("%d behind %d times", got, done)
	}
	if got := Settle("", func(s string) string { return s }); got != "" {
		t.Errorf("%q", got)
	}
	chain := Settle([4]Of[count]{One[count](7)}, func(l [4]Of[count]) [4]Of[count] {
		for i := 3; i > 0; i-- {
			l[i] |= l[i-1]
		}
		return l
	})
	if chain != [4]Of[count]{of(7), of(7), of(7), of(7)} {
		t.Errorf("%v", chain)
	}
}
