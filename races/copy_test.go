package races

import (
	"slices"
	"testing"

	"races/api"
)

// rich: a program of which machines have all that machines can have.
const rich = "var v;mutex m;func f(o,n){o.l=n;n=n-1;if n{f(o,n);}return n;}" +
	"func w(o){lock m;x=f(o,2);v=o;unlock m;x=o+1;}" +
	"func main(){o=new;t=go w(o);lock m;y=v;x=f(o,3);unlock m;u=go w(o);v=u;join t;p=new;p.r=o;y=p.r;x=v;}"

// asked: all that can be asked of a machine without a step.
func asked(m *Machine) []string {
	l := tellPairs(m.Races())
	for _, t := range m.Ready() {
		l = append(l, "ready", string(rune('0'+t)))
	}
	return append(l, "threads", string(rune('0'+m.Threads())), "objects", string(rune('0'+m.Objects())))
}

// TestP7CopyStandsThere: at each point of a run a copy answers as its machine does, now and whichever way both go on.
func TestP7CopyStandsThere(t *testing.T) {
	for turn := range 7 {
		m := started(t, rich)
		for k := 0; len(m.Ready()) > 0; k++ {
			c := m.Copy()
			d := m.Copy()
			if !slices.Equal(asked(m), asked(c)) {
				t.Fatalf("step %d: %v, but the copy %v", k, asked(m), asked(c))
			}
			sameWay(t, c, d, turn+k)
			m.Step(k * turn)
		}
	}
}

// sameWay: two machines that stand at one point go on alike till they are over.
func sameWay(t *testing.T, a, b *Machine, turn int) {
	t.Helper()
	for k := 0; len(a.Ready()) > 0; k++ {
		e, f := a.Step(k*turn), b.Step(k*turn)
		if e != f || !slices.Equal(asked(a), asked(b)) {
			t.Fatalf("%s and %s; %v and %v", tell(e), tell(f), asked(a), asked(b))
		}
	}
	if f := b.Step(0); f.Kind != 0 {
		t.Fatalf("the one is over, the other does %s", tell(f))
	}
}

// TestP7CopyIsItsOwn: whatever a copy does, the machine stays where it is; and the other way about.
func TestP7CopyIsItsOwn(t *testing.T) {
	for turn := range 7 {
		m := started(t, rich)
		untouched := started(t, rich)
		for k := 0; len(m.Ready()) > 0; k++ {
			before := asked(m)
			runAlone(m.Copy())
			if !slices.Equal(asked(m), before) {
				t.Fatalf("step %d: a copy that ran made %v of %v", k, asked(m), before)
			}
			kept := m.Copy()
			if e, f := m.Step(k*turn), untouched.Step(k*turn); e != f {
				t.Fatalf("step %d: %s, but %s where no copies ran", k, tell(e), tell(f))
			}
			if !slices.Equal(asked(kept), before) {
				t.Fatalf("step %d: a step made %v of the copy's %v", k, asked(kept), before)
			}
			if !slices.Equal(asked(m), asked(untouched)) {
				t.Fatalf("step %d: %v, but %v where no copies ran", k, asked(m), asked(untouched))
			}
		}
		over(t, untouched)
	}
}

// TestP7CopyCorners: what is shared by threads, what their locals hold, who holds what: each is the copy's own.
func TestP7CopyCorners(t *testing.T) {
	m := started(t, "var v;mutex m;func main(){x=1;o=new;lock m;while 1{y=x;x=2;y=v;v=3;y=o.l;o.l=4;unlock m;}}")
	for range 4 {
		m.Step(0)
	}
	c := m.Copy()
	for range 2 {
		for _, one := range []*Machine{c, m} {
			d := one.Copy()
			alone(t, d, "0 set@4 -1.0 1", "0 set@5 -1.0 2", "0 load@6 -1.0 0", "0 store@7 -1.0 3",
				"0 get@8 0.0 0", "0 put@9 0.0 4", "0 unlock@10 -1.0 0", "0 while@3 -1.0 1", "0 set@4 -1.0 2")
		}
	}
}

// TestP7CopyOfCalls: functions that go on go on in each by itself.
func TestP7CopyOfCalls(t *testing.T) {
	m := started(t, "func f(n){n=n+1;return n;}func main(){x=f(1);x=f(x);y=x;}")
	for range 2 {
		m.Step(0)
	}
	c := m.Copy()
	for _, one := range []*Machine{m, c} {
		alone(t, one, "0 return@1 -1.0 2", "0 call@3 -1.0 0", "0 set@0 -1.0 3", "0 return@1 -1.0 3", "0 set@4 -1.0 3", "0 return@-1 -1.0 0!")
	}
}

// TestP7CopyWhileARunGoesOn: see may take copies and let them run.
func TestP7CopyWhileARunGoesOn(t *testing.T) {
	var alone []api.Event
	m := started(t, rich)
	m.Run(func(ready []int) int {
		runAlone(m.Copy())
		return len(alone)
	}, func(e api.Event) bool {
		alone = append(alone, e)
		runAlone(m.Copy())
		return true
	})
	n := started(t, rich)
	for i, e := range alone {
		if f := n.Step(i); e != f {
			t.Fatalf("step %d: %s, but %s without copies", i, tell(e), tell(f))
		}
	}
	over(t, n)
}
