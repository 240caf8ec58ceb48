package races

import (
	"math/rand"
	"slices"
	"strconv"
	"strings"
	"testing"

	"races/api"
)

func TestP14Examples(t *testing.T) {
	reported(t, docW+"func main(){go w();g=2;}", "0-2 var0 roots 1 0")
	reported(t, docW+"func main(){t=go w();join t;g=2;}")
	reported(t, docW+"func main(){go w();go w();}", "0-0 var0 roots 1 2")
	reported(t, docW+"func main(){while 1{go w();}}", "0-0 var0 roots 1 1")
	reported(t, docW+"func main(){go w();lock m;x=g;unlock m;}", "0-3 var0 roots 1 0 held [] [0]")
	reported(t, "var g;func w(p){p.r=1;}func main(){o=new;go w(o);x=o.r;}", "0-3 new0.r roots 1 0")
}

// TestP14Parts: what each part of a report tells, not just as text.
func TestP14Parts(t *testing.T) {
	p := mustRead(t, "var h;var g;mutex m;mutex n;mutex k;func w(){lock k;lock m;g=1;}func main(){go w();lock n;x=g;}")
	var l []api.Report
	for r := range p.Reports() {
		l = append(l, r)
	}
	if len(l) != 1 {
		t.Fatalf("%d reports, want 1", len(l))
	}
	r := l[0]
	if r.A != 2 || r.B != 5 || r.New != -1 || r.Field != 1 || r.RootA != 1 || r.RootB != 0 {
		t.Errorf("%+v", r)
	}
	if !slices.Equal(r.LocksA, []int{0, 2}) || !slices.Equal(r.LocksB, []int{1}) {
		t.Errorf("held are %v and %v", r.LocksA, r.LocksB)
	}
}

// TestP14Writes: one of the two writes.
func TestP14Writes(t *testing.T) {
	const read, write = "var g;func w(){x=g;}", "var g;func w(){g=1;}"
	reported(t, read+"func main(){go w();x=g;}")
	reported(t, read+"func main(){go w();go w();}")
	reported(t, read+"func main(){go w();g=2;}", "0-2 var0 roots 1 0")
	reported(t, write+"func main(){go w();x=g;}", "0-2 var0 roots 1 0")
	reported(t, write+"func main(){go w();g=2;}", "0-2 var0 roots 1 0")
	const get, put = "func w(p){x=p.l;}", "func w(p){p.l=1;}"
	reported(t, get+"func main(){o=new;go w(o);x=o.l;}")
	reported(t, get+"func main(){o=new;go w(o);o.l=2;}", "0-3 new0.l roots 1 0")
	reported(t, put+"func main(){o=new;go w(o);x=o.l;}", "0-3 new0.l roots 1 0")
	reported(t, put+"func main(){o=new;go w(o);o.l=2;}", "0-3 new0.l roots 1 0")
}

// TestP14Things: the same variable, or the same field of something shared that both may hold.
func TestP14Things(t *testing.T) {
	reported(t, "var g;var h;func w(){g=1;}func main(){go w();h=2;}")
	reported(t, "var g;var h;func w(){h=1;}func main(){go w();h=2;}", "0-2 var1 roots 1 0")
	reported(t, "func w(p){p.l=1;}func main(){o=new;go w(o);o.r=2;x=o.r;}")
	reported(t, "func w(p){p.l=1;}func main(){o=new;q=new;go w(o);q.l=2;}")
	// A variable is no field, though it has the same number.
	reported(t, "var g;func w(p){g=1;}func main(){o=new;go w(o);o.l=2;}")
	reported(t, "var g;var h;func w(p){p.r=1;}func main(){o=new;go w(o);h=2;}")
	// The first of several things that both may hold; those that one of them may not hold, and such as are not shared, count not.
	reported(t, "func w(p){p.l=1;}func main(){a=new;b=new;c=new;d=b;if x{d=c;}go w(d);e=a;e=b;e.l=2;}",
		"0-10 new1.l roots 1 0")
	reported(t, "func w(p){p.l=1;}func main(){b=new;a=new;c=new;d=c;if x{d=a;}go w(d);a.l=2;c.l=3;}",
		"0-8 new1.l roots 1 0", "0-9 new2.l roots 1 0")
	reported(t, "func w(p){p.l=1;}func main(){a=new;b=new;go w(b);w(a);}", "0-0 new1.l roots 0 1")
	// New statements count from the left, also those that may not run.
	reported(t, "func e(){x=new;}func w(p){p.l=1;}func main(){if x{return;y=new;}o=new;go w(o);o.l=2;}",
		"1-7 new2.l roots 1 0")
}

// TestP14Locks: no mutex is surely held at both.
func TestP14Locks(t *testing.T) {
	const w = "var g;mutex m;mutex n;func w(){lock m;g=1;unlock m;}"
	reported(t, w+"func main(){go w();lock m;g=2;unlock m;}")
	reported(t, w+"func main(){go w();lock n;g=2;unlock n;}", "1-5 var0 roots 1 0 held [0] [1]")
	reported(t, w+"func main(){go w();lock n;lock m;g=2;}")
	reported(t, w+"func main(){go w();g=2;}", "1-4 var0 roots 1 0 held [0] []")
	reported(t, w+"func main(){go w();go w();}")
	// An access with itself.
	reported(t, "var g;mutex m;func w(){lock m;unlock m;g=1;}func main(){go w();go w();}", "2-2 var0 roots 1 2")
	reported(t, "mutex m;func w(p){lock m;p.l=1;}func main(){o=new;go w(o);lock m;o.l=2;}")
}

// TestP14WithItself: an access that two roots run, or one that starts twice, if it writes.
func TestP14WithItself(t *testing.T) {
	reported(t, "var g;func w(){x=g;}func main(){while 1{go w();}}")
	reported(t, "var g;func w(){g=x;}func main(){go w();}")
	reported(t, "var g;func w(){g=x;}func main(){w();w();}")
	reported(t, "var g;func w(){g=x;}func main(){go w();w();}", "0-0 var0 roots 0 1")
	reported(t, "var g;func w(){g=x;}func main(){w();go w();}")
	reported(t, "var g;func main(){while 1{g=x;}}")
	reported(t, "func w(p){p.l=1;}func main(){o=new;while 1{go w(o);}}", "0-0 new0.l roots 1 1")
}

// TestP14Roots: main beside a start, one root beside itself, or two starts.
func TestP14Roots(t *testing.T) {
	// Main on the left, on the right, and never beside itself.
	reported(t, "var g;func main(){go w();g=2;}func w(){g=1;}", "1-2 var0 roots 0 1")
	reported(t, "var g;func w(){g=1;}func main(){go w();g=2;}", "0-2 var0 roots 1 0")
	reported(t, "var g;func main(){g=1;g=2;main();}")
	// One of two starts is about where the other one starts.
	const two = "var g;func w(){g=1;}func v(){g=2;}"
	reported(t, two+"func main(){go w();go v();}", "0-1 var0 roots 1 2")
	reported(t, two+"func main(){go v();go w();}", "0-1 var0 roots 2 1")
	reported(t, two+"func main(){t=go w();join t;go v();}")
	reported(t, two+"func main(){if x{go w();}else{go v();}}")
	reported(t, two+"func main(){while x{if y{go w();return;}else{go v();}}}", "0-1 var0 roots 1 2", "1-1 var0 roots 2 2")
	reported(t, two+"func main(){while x{if y{t=go w();join t;}else{u=go v();join u;}}}",
		"0-0 var0 roots 1 1", "0-1 var0 roots 1 2", "1-1 var0 roots 2 2")
	// A start that starts twice beside itself is not the same as beside another.
	reported(t, two+"func main(){t=go w();join t;while x{go v();}}", "1-1 var0 roots 2 2")
}

// TestP14FirstRoots: the least RootA, then the least RootB.
func TestP14FirstRoots(t *testing.T) {
	const w = "var g;func w(){g=1;}"
	reported(t, w+"func main(){go w();go w();go w();w();}", "0-0 var0 roots 0 1")
	reported(t, w+"func main(){go w();go w();go w();}", "0-0 var0 roots 1 2")
	reported(t, w+"func main(){t=go w();join t;go w();go w();}", "0-0 var0 roots 2 3")
	reported(t, w+"func main(){t=go w();join t;go w();w();}", "0-0 var0 roots 0 2")
	reported(t, w+"func main(){while x{go w();}go w();}", "0-0 var0 roots 1 1")
	reported(t, w+"func main(){go w();while x{go w();}}", "0-0 var0 roots 1 2")
	reported(t, w+"func v(){x=g;}func main(){go v();go w();w();}", "0-0 var0 roots 0 2", "0-1 var0 roots 0 1")
	reported(t, w+"func v(){x=g;}func main(){go w();go w();w();v();}", "0-0 var0 roots 0 1", "0-1 var0 roots 1 0")
}

// TestP14AboutWhereAStartStarts: what is about ahead of it where main alone runs its function; all where another root does.
func TestP14AboutWhereAStartStarts(t *testing.T) {
	const two = "var g;func v(){g=2;}func w(){g=1;}func f(){go w();}"
	reported(t, two+"func main(){t=go v();join t;f();}")
	reported(t, two+"func main(){go v();f();}", "0-1 var0 roots 2 1")
	reported(t, two+"func main(){t=go v();join t;go f();}", "0-1 var0 roots 2 1")
	reported(t, two+"func k(){f();}func main(){t=go v();join t;f();go k();}", "0-1 var0 roots 2 1", "1-1 var0 roots 1 1")
	reported(t, two+"func k(){f();}func main(){t=go v();join t;f();return;go k();}")
	// Also such as are started by one another.
	reported(t, "var g;func w(){g=1;}func k(){t=go w();join t;u=go w();}func main(){go k();}", "0-0 var0 roots 1 2")
	reported(t, "var g;func w(){g=1;}func main(){t=go w();join t;u=go w();}")
}

// TestP14Order: A from the left, then B.
func TestP14Order(t *testing.T) {
	reported(t, "var g;var h;func w(){h=1;g=1;x=h;}func main(){go w();go w();x=g;h=2;}",
		"0-0 var1 roots 1 2", "0-2 var1 roots 1 2", "0-6 var1 roots 1 0",
		"1-1 var0 roots 1 2", "1-5 var0 roots 1 0",
		"2-6 var1 roots 1 0")
	reported(t, "var g;func main(){go w();if x{g=1;}else{g=2;}while x{y=g;}}func w(){g=3;}",
		"2-6 var0 roots 0 1", "3-6 var0 roots 0 1", "5-6 var0 roots 0 1")
}

// three: a program with three reports, with mutexes at both ends of each.
const three = "var g;mutex m;mutex n;func w(){lock m;g=1;x=g;g=3;}func main(){go w();lock n;g=2;}"

// TestP14Stop: behind a no nothing more is told; the same function tells it all again.
func TestP14Stop(t *testing.T) {
	reports := mustRead(t, three).Reports()
	all := []string{
		"1-6 var0 roots 1 0 held [0] [1]",
		"2-6 var0 roots 1 0 held [0] [1]",
		"3-6 var0 roots 1 0 held [0] [1]",
	}
	for most := 1; most <= 4; most++ {
		var told []string
		reports(func(r api.Report) bool {
			told = append(told, tellReport(r))
			return len(told) != most
		})
		if want := all[:min(most, 3)]; !slices.Equal(told, want) {
			t.Errorf("no to number %d: told %v, want %v", most, told, want)
		}
	}
}

// TestP14RangedAgain: one within another, and behind a break.
func TestP14RangedAgain(t *testing.T) {
	p := mustRead(t, three)
	reports := p.Reports()
	want := reportsOf(p)
	var outer []string
	for r := range reports {
		outer = append(outer, tellReport(r))
		var inner []string
		for s := range reports {
			inner = append(inner, tellReport(s))
			if len(inner) == len(outer) {
				break
			}
		}
		if !slices.Equal(inner, want[:len(outer)]) {
			t.Errorf("within: %v", inner)
		}
	}
	if len(want) != 3 || !slices.Equal(outer, want) {
		t.Errorf("told %v, want %v", outer, want)
	}
}

// TestP14Nowhere: programs of which nothing is reported.
func TestP14Nowhere(t *testing.T) {
	for _, text := range []string{
		"func main(){}",
		"var g;func main(){g=1;x=g;while x{g=x;}}",
		"var g;func f(){g=1;}func main(){f();f();while x{f();}}",
		"func f(n){if n{m=n-1;x=f(m);y=x+n;return y;}return;}func main(){x=f(4);y=f(9);}",
		"mutex m;func w(){lock m;unlock m;}func main(){go w();go w();lock m;}",
		"var g;func w(){x=g;y=g;}func main(){g=1;go w();go w();x=g;}",
		"func w(p){x=p.l;p.r=x;}func main(){o=new;o.l=5;o.r=1;go w(o);}",
		"func w(p){x.l=1;x.r=p;p=x.l;}func main(){go w(1);x.l=2;}",
	} {
		reported(t, text)
	}
}

// TestP14Variables: as many as there are, each by its number, wherever it is declared.
func TestP14Variables(t *testing.T) {
	for i := range api.MaxVars {
		v := "v" + strconv.Itoa(i)
		reported(t, "func w(){"+v+"=1;}var v0;var v1;mutex m;var v2;func main(){go w();"+v+"=2;}var v3;var v4;",
			"0-2 var"+strconv.Itoa(i)+" roots 1 0")
	}
}

// TestP14FullPrograms: as many statements, functions, locals, new and go statements as there may be, the last of them in use.
func TestP14FullPrograms(t *testing.T) {
	reported(t, "func w(p,q,r){x=1;y=r;z=y;z.l=1;}func main(){o=new;go w(1,2,o);o.l=2;}", "3-6 new0.l roots 1 0")
	reported(t, "func a(){}func b(){}func c(){}func w(p,q,r){r.r=1;}"+
		"func main(){a1=new;a2=new;a3=new;a4=new;a5=new;o=new;go a();go a();go a();go a();go w(0,0,o);o.r=2;}",
		"0-12 new5.r roots 5 0")
	var body strings.Builder
	for range api.MaxPlaces - 3 {
		body.WriteString("x=1;")
	}
	reported(t, "var g;func w(){g=1;}func main(){go w();"+body.String()+"g=2;}", "0-47 var0 roots 1 0")
}

// TestP14RacesAreReported: what races in a run has been reported of the program.
func TestP14RacesAreReported(t *testing.T) {
	rnd := rand.New(rand.NewSource(14))
	raced := 0
	for range 1500 {
		p := mustRead(t, anyProgram(rnd))
		reported := map[api.Pair]bool{}
		for r := range p.Reports() {
			reported[api.Pair{A: r.A, B: r.B}] = true
		}
		for range 5 {
			m := p.Start()
			steps := 0
			m.Run(func([]int) int { return rnd.Int() }, func(api.Event) bool {
				steps++
				return steps < 150
			})
			for pair := range m.Races() {
				raced++
				if !reported[pair] {
					t.Fatalf("%s\n%v races, but is not reported", p.Print(), pair)
				}
			}
		}
	}
	if raced < 500 {
		t.Errorf("only %d races were seen", raced)
	}
}

// anyProgram: a program in which things and variables are shared, locked and joined at random.
func anyProgram(rnd *rand.Rand) string {
	pieces := []string{
		"g=o;", "o=g;", "o.l=1;", "o.r=o;", "x=o.l;", "o=o.r;", "h=1;", "x=h;", "o=new;",
		"lock m;", "unlock m;", "lock n;", "unlock n;", "join t;", "t=h;", "h=t;", "x=1;", "x=0;",
		"f(o);", "o=f(o);", "w(o);", "if x{", "while x{", "}", "}else{", "return o;", "t=go w(o);", "t=go f(o);",
	}
	text := "var g;var h;mutex m;mutex n;"
	news, gos := 0, 0
	for _, head := range []string{"func w(o){", "func f(o){", "func main(){o=new;x=1;t=go w(o);"} {
		text += head
		var open []string
		for range 3 + rnd.Intn(9) {
			piece := pieces[rnd.Intn(len(pieces))]
			switch {
			case piece == "}" && len(open) == 0, piece == "}else{" && (len(open) == 0 || open[len(open)-1] != "if x{"):
				continue
			case piece == "}":
				open = open[:len(open)-1]
			case piece == "}else{":
				open[len(open)-1] = piece
			case strings.HasSuffix(piece, "{") && len(open) == 4:
				continue
			case strings.HasSuffix(piece, "{"):
				open = append(open, piece)
			case piece == "o=new;":
				if news++; news > api.MaxNews-1 {
					continue
				}
			case strings.Contains(piece, "go "):
				if gos++; gos > api.MaxGos-1 {
					continue
				}
			}
			text += piece
		}
		text += strings.Repeat("}", len(open)) + "}"
	}
	return text
}
