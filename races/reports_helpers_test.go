package races

import (
	"fmt"
	"slices"
	"strings"
	"testing"

	"races/api"
)

// tellReport: a report as text: its places; var and a number, or new, a number and a side; its roots; the mutexes, if there are any.
func tellReport(r api.Report) string {
	thing := fmt.Sprintf("var%d", r.Field)
	if r.New != -1 {
		thing = fmt.Sprintf("new%d.%c", r.New, "lr"[r.Field])
	}
	s := fmt.Sprintf("%d-%d %s roots %d %d", r.A, r.B, thing, r.RootA, r.RootB)
	if len(r.LocksA)+len(r.LocksB) > 0 {
		s += fmt.Sprintf(" held %v %v", r.LocksA, r.LocksB)
	}
	return s
}

// reportsOf: all that a program reports, told.
func reportsOf(p *Program) []string {
	var l []string
	for r := range p.Reports() {
		l = append(l, tellReport(r))
	}
	return l
}

// reported: just these reports are made of the program, in this order.
func reported(t *testing.T, text string, want ...string) {
	t.Helper()
	if got := reportsOf(mustRead(t, text)); !slices.Equal(got, want) {
		t.Errorf("%s\nreports:\n  %s\nwant:\n  %s", text, strings.Join(got, "\n  "), strings.Join(want, "\n  "))
	}
}

// worker: a variable, a mutex, and a function w whose one access is place 0; of two variables the other is h.
const worker = "var g;var h;mutex m;mutex n;func w(){g=1;}"
