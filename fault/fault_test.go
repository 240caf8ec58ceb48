package fault

import (
	"errors"
	"testing"

	"races/api"
)

func TestCatch(t *testing.T) {
	behind := false
	err := Catch(func() {
		Throw(api.ErrUse, 7)
		behind = true
	})
	if err == nil || behind {
		t.Fatalf("%v was caught; went on behind the throw: %v", err, behind)
	}
	if e, at := err.Parts(); e != api.ErrUse || at != 7 {
		t.Errorf("%v at %d was caught", e, at)
	}
	if !errors.Is(err, api.ErrUse) || errors.Is(err, api.ErrArgs) || errors.Is(err, api.OK) {
		t.Errorf("%v is not just ErrUse", err)
	}
}

func TestCatchNothing(t *testing.T) {
	done := false
	if err := Catch(func() { done = true }); err != nil || !done {
		t.Errorf("%v was caught; done: %v", err, done)
	}
}

// TestMistakesPass: what was not thrown as a fault is none of the text's.
func TestMistakesPass(t *testing.T) {
	defer func() {
		if recover() != "a mistake" {
			t.Errorf("a mistake was caught as a fault")
		}
	}()
	err := Catch(func() { panic("a mistake") })
	t.Errorf("%v was caught", err)
}
