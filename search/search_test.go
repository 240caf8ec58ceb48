package search

import (
	"slices"
	"sync/atomic"
	"testing"
	"time"
)

// TestP10WorkersAtATime: none of them ends before all have begun, so that fewer would wait for ever; and there are never more.
func TestP10WorkersAtATime(t *testing.T) {
	for workers := 1; workers <= 8; workers++ {
		var looking, most atomic.Int64
		var begun atomic.Int64
		all := make(chan bool)
		share(5*workers, workers, func(int) {
			now := looking.Add(1)
			for was := most.Load(); now > was && !most.CompareAndSwap(was, now); was = most.Load() {
			}
			if begun.Add(1) == int64(workers) {
				close(all)
			}
			select {
			case <-all:
			case <-time.After(10 * time.Second):
				t.Errorf("%d workers: %d look", workers, begun.Load())
			}
			looking.Add(-1)
		})
		if looking.Load() != 0 || most.Load() != int64(workers) {
			t.Errorf("%d workers: %d have looked at a time, %d still do", workers, most.Load(), looking.Load())
		}
	}
}

// TestP10EachOnce: whoever looks, each number is looked at once.
func TestP10EachOnce(t *testing.T) {
	for workers := 1; workers <= 8; workers++ {
		for n := range 30 {
			times := make([]int, n)
			share(n, workers, func(i int) { times[i]++ })
			if slices.ContainsFunc(times, func(k int) bool { return k != 1 }) {
				t.Errorf("%d workers: looked at %v times", workers, times)
			}
		}
	}
}
