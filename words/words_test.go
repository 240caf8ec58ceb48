package words

import (
	"slices"
	"testing"

	"races/api"
	"races/fault"
)

// all reads words up to the text's end.
func all(text string) (l []Word, err api.Error) {
	err = fault.Catch(func() {
		r := NewReader(text)
		for {
			w := r.Next()
			l = append(l, w)
			if w.Kind == End {
				return
			}
		}
	})
	return l, err
}

func TestP3Words(t *testing.T) {
	got, err := all(" a1=07==\n=b2c if(ifs")
	want := []Word{
		{Name, "a1", 1}, {Fixed, "=", 3}, {Number, "07", 4}, {Fixed, "==", 6}, {Fixed, "=", 9},
		{Name, "b2c", 10}, {Fixed, "if", 14}, {Fixed, "(", 16}, {Name, "ifs", 17}, {End, "", 20},
	}
	if err != nil || !slices.Equal(got, want) {
		t.Errorf("%v %v, want %v", got, err, want)
	}
}

func TestP3End(t *testing.T) {
	r := NewReader("x \n")
	r.Next()
	for range 3 {
		if w := r.Next(); w != (Word{End, "", 3}) {
			t.Errorf("behind the end: %v", w)
		}
	}
}

// TestP3AsFarAsAsked: no word is looked at ahead of being asked for.
func TestP3AsFarAsAsked(t *testing.T) {
	got, err := all("x 1 $")
	if e, at := err.Parts(); e != api.ErrChar || at != 4 {
		t.Errorf("%v, want ErrChar at 4", err)
	}
	if want := []Word{{Name, "x", 0}, {Number, "1", 2}}; !slices.Equal(got, want) {
		t.Errorf("%v ahead of the fault, want %v", got, want)
	}
}
