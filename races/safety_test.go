package races

import (
	"runtime"
	"slices"
	"strings"
	"testing"

	"races/api"
)

// samples: programs that have, between them, every form of the language.
func samples() []string {
	return []string{
		"var v;mutex m;func f(a,b){x=a+b;v=x;return x;}func main(){lock m;y=v;unlock m;t=go f(y,2);join t;z=f(1,y);}",
		"func main(){o=new;o.l=1;o.r=o;x=o.l;y=o.r;go main();main();if x<y{}}",
		"func main(){o=new;o.l=1;o.r=o;x=o.l;y=o.r;go main();main();x=x<y;x=x-y;x=x==y;}",
		"func main(){if x{y=007;}else{while y{if 0{}else{return;}}}return y;}\n",
		"func f(a){while a{while a{while a{while a{while a{a=a-1;}}}}}}func main(){ f ( 9 ) ; }",
		"",
	}
}

// ask reads a text, asks what has been read, and checks what is so of all texts.
func ask(t *testing.T, text string) {
	t.Helper()
	p, err := Read(text)
	if err != nil {
		_, at := err.Parts()
		if p != nil || !properError(err) || at > len(text) {
			t.Fatalf("%q: no proper error: %v, program %v", text, err, p)
		}
		return
	}
	if p == nil {
		t.Fatalf("%q: neither a program nor an error", text)
	}
	places := p.Places()
	if !slices.IsSorted(places) || len(slices.Compact(slices.Clone(places))) != len(places) {
		t.Fatalf("%q: places do not rise: %v", text, places)
	}
	printed := p.Print()
	if len(printed) > api.MaxText {
		return
	}
	again, err := Read(printed)
	if err != nil || again.Print() != printed || len(again.Places()) != len(places) {
		t.Fatalf("%q: read again as printed it is another program: %v", text, err)
	}
}

// TestP1AllTexts: no text makes Read, Print or Places panic: samples that are cut short, lack a byte, or have another or one more.
func TestP1AllTexts(t *testing.T) {
	for _, s := range samples() {
		for i := range len(s) + 1 {
			ask(t, s[:i])
			ask(t, s[i:])
			for c := range 256 {
				ask(t, s[:i]+string([]byte{byte(c)})+s[i:])
				if i < len(s) {
					ask(t, s[:i]+string([]byte{byte(c)})+s[i+1:])
				}
			}
			if i < len(s) {
				ask(t, s[:i]+s[i+1:])
			}
		}
	}
}

// TestP1Words: no row of words makes them panic: samples of which a word is another one.
func TestP1Words(t *testing.T) {
	all := strings.Fields("var mutex func lock unlock join return if else while go new ; { } ( ) , . + - < = == x v m f l 7")
	for _, s := range samples() {
		words := split(s)
		for i := range words {
			for _, w := range all {
				ask(t, strings.Join(slices.Concat(words[:i], []string{w}, words[i+1:]), " "))
				ask(t, strings.Join(slices.Concat(words[:i], []string{w}, words[i:]), " "))
			}
		}
	}
}

// split: a sample's words.
func split(text string) []string {
	for _, sign := range []string{";", "{", "}", "(", ")", ",", ".", "+", "-", "<", "="} {
		text = strings.ReplaceAll(text, sign, " "+sign+" ")
	}
	return strings.Fields(strings.ReplaceAll(text, "=  =", "=="))
}

func TestP1GreatTexts(t *testing.T) {
	for _, piece := range []string{"a", "0", "{", "func f(){", "x=1;", " ", "\x00", "é", "if x{", "f(", ","} {
		ask(t, strings.Repeat(piece, 1<<16))
		ask(t, strings.Repeat(piece, 700/len(piece)))
		ask(t, "func main(){"+strings.Repeat(piece, 600/len(piece)))
	}
}

// TestP1NoProgram: there is no program beside an error; who asks it all the same gets an answer.
func TestP1NoProgram(t *testing.T) {
	none, _ := Read("")
	for _, p := range []*Program{none, {}} {
		if p.Print() != "" || len(p.Places()) != 0 {
			t.Errorf("no program, but it has a text or places")
		}
	}
}

func TestP1NoGoroutineStays(t *testing.T) {
	before := runtime.NumGoroutine()
	for _, s := range samples() {
		ask(t, s)
	}
	if after := runtime.NumGoroutine(); after > before {
		t.Errorf("%d goroutines, %d before", after, before)
	}
}

// TestP2ListsAreTheCallers: what is written into an answer, and into its spare room, changes no later one.
func TestP2ListsAreTheCallers(t *testing.T) {
	p := mustRead(t, "func main(){x=1;y=2;if x{z=3;}}")
	want := []int{12, 16, 20, 25}
	text := p.Print()
	first := p.Places()
	second := p.Places()
	for i := range first[:cap(first)] {
		first[:cap(first)][i] = -7
	}
	_ = append(first, 99)
	if !slices.Equal(second, want) {
		t.Errorf("two answers share memory: %v", second)
	}
	if got := p.Places(); !slices.Equal(got, want) {
		t.Errorf("places are the program's own: %v, want %v", got, want)
	}
	if p.Print() != text {
		t.Errorf("the program has changed")
	}
}

// TestP2ProgramsStandAlone: a program is changed by nothing, not even by reading others, or the same text again.
func TestP2ProgramsStandAlone(t *testing.T) {
	const text = "var v;func main(){x=v;v=x;}"
	p := mustRead(t, text)
	printed, places := p.Print(), p.Places()
	for _, s := range samples() {
		Read(s)
	}
	mustRead(t, text)
	Read("func main(){$")
	if p.Print() != printed || !slices.Equal(p.Places(), places) {
		t.Errorf("the program has changed: %s %v", p.Print(), p.Places())
	}
}

// TestErrorsStandAlone: an error that has been told stays as it is.
func TestErrorsStandAlone(t *testing.T) {
	_, first := Read("func main(){x=$")
	_, second := Read("var g;var g;")
	if e, at := first.Parts(); e != api.ErrChar || at != 14 {
		t.Errorf("the first error is %v now", first)
	}
	if e, at := second.Parts(); e != api.ErrTwice || at != 10 {
		t.Errorf("the second error is %v", second)
	}
}
