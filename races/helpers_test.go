package races

import (
	"errors"
	"slices"
	"strings"
	"testing"

	"races/api"
)

// mustRead reads a text that is a program.
func mustRead(t *testing.T, text string) *Program {
	t.Helper()
	p, err := Read(text)
	if err != nil {
		t.Fatalf("%q: %v, want a program", text, err)
	}
	if p == nil {
		t.Fatalf("%q: neither a program nor an error", text)
	}
	return p
}

// refused: the text has that fault, just where it is marked by ^ (which is no part of it); without a mark: at 0.
func refused(t *testing.T, e api.Errno, marked string) {
	t.Helper()
	at := max(0, strings.IndexByte(marked, '^'))
	refusedAt(t, e, at, strings.Replace(marked, "^", "", 1))
}

func refusedAt(t *testing.T, e api.Errno, at int, text string) {
	t.Helper()
	p, err := Read(text)
	if err == nil {
		t.Errorf("%q: no error, want %v at %d", text, e, at)
		return
	}
	if p != nil {
		t.Errorf("%q: a program beside an error", text)
	}
	if gotE, gotAt := err.Parts(); gotE != e || gotAt != at {
		t.Errorf("%q: %v, want %v at %d", text, err, e, at)
	}
}

// inMain: a program with that main, beside a few declarations.
func inMain(body string) string {
	return "var v;var w;mutex m;func f(){}func g(p,q){}func main(){" + body + "}"
}

// accepted: the bodies stand in main without a fault.
func accepted(t *testing.T, bodies ...string) {
	t.Helper()
	for _, b := range bodies {
		mustRead(t, inMain(b))
	}
}

// properError: it is just the one Errno that Parts tells, and has a text.
func properError(err api.Error) bool {
	e, at := err.Parts()
	for k := api.OK; k <= api.ErrMain; k++ {
		if errors.Is(err, k) != (k == e) {
			return false
		}
	}
	return e != api.OK && at >= 0 && err.Error() != ""
}

// printed: the text is printed as those lines.
func printed(t *testing.T, text string, lines ...string) {
	t.Helper()
	want := strings.Join(lines, "\n") + "\n"
	if got := mustRead(t, text).Print(); got != want {
		t.Errorf("%q is printed as\n%swant\n%s", text, got, want)
	}
}

// placed: the statements begin just where the text is marked by ^ (which is no part of it).
func placed(t *testing.T, marked string) {
	t.Helper()
	pieces := strings.Split(marked, "^")
	var want []int
	at := 0
	for _, piece := range pieces[:len(pieces)-1] {
		at += len(piece)
		want = append(want, at)
	}
	if got := mustRead(t, strings.Join(pieces, "")).Places(); !slices.Equal(got, want) {
		t.Errorf("%q: places %v, want %v", marked, got, want)
	}
}
