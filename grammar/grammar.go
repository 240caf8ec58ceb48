// Package grammar reads a text by the language's form (P4).
package grammar

import (
	"strconv"

	"races/api"
	"races/fault"
	"races/tree"
	"races/words"
)

// reader reads one word ahead: what stands at word has been read, and not been done with.
type reader struct {
	words *words.Reader
	word  words.Word
	depth int
}

// Read reads a text; it throws the first fault of its words and its form. What names stand for is left open.
func Read(text string) *tree.Program {
	r := &reader{words: words.NewReader(text)}
	r.next()
	p := &tree.Program{}
	for r.word.Kind != words.End {
		p.Declarations = append(p.Declarations, r.declaration())
	}
	return p
}

func (r *reader) next() { r.word = r.words.Next() }

func (r *reader) is(text string) bool {
	return r.word.Kind == words.Fixed && r.word.Text == text
}

// skip goes behind a word, if it stands here.
func (r *reader) skip(text string) bool {
	if !r.is(text) {
		return false
	}
	r.next()
	return true
}

// expect goes behind a word that must stand here.
func (r *reader) expect(text string) {
	if !r.skip(text) {
		r.refuse()
	}
}

// refuse: the form can't go on with the word that stands here.
func (r *reader) refuse() { fault.Throw(api.ErrSyntax, r.word.At) }

func (r *reader) name() tree.Name {
	if r.word.Kind != words.Name {
		r.refuse()
	}
	n := tree.Name{Text: r.word.Text, At: r.word.At}
	r.next()
	return n
}

func (r *reader) atom() tree.Atom {
	if r.word.Kind != words.Number {
		return tree.Atom{Name: r.name()}
	}
	// It is a few digits: there is nothing that could go wrong.
	n, _ := strconv.Atoi(r.word.Text)
	r.next()
	return tree.Atom{Number: n}
}

// side reads a field's name: 0 for l, 1 for r.
func (r *reader) side() int {
	// The word behind the name is read ahead of asking which name it is.
	n := r.name()
	switch n.Text {
	case "l":
		return 0
	case "r":
		return 1
	}
	fault.Throw(api.ErrSyntax, n.At)
	return 0
}

// list reads what stands between parentheses, parted by commas, by a function that reads one of them.
func list[T any](r *reader, one func() T) []T {
	r.expect("(")
	if r.skip(")") {
		return nil
	}
	l := []T{one()}
	for r.skip(",") {
		l = append(l, one())
	}
	r.expect(")")
	return l
}

func (r *reader) declaration() *tree.Declaration {
	d := &tree.Declaration{}
	switch {
	case r.skip("var"):
		d.Kind = tree.Variable
	case r.skip("mutex"):
		d.Kind = tree.Mutex
	case r.skip("func"):
		d.Kind = tree.Function
	default:
		r.refuse()
	}
	d.Name = r.name()
	if d.Kind != tree.Function {
		r.expect(";")
		return d
	}
	d.Params = list(r, r.name)
	d.Body = r.block()
	return d
}

func (r *reader) block() []*tree.Statement {
	// The depth is asked ahead of reading on: nothing behind the brace counts, if it is one too many.
	if r.is("{") && r.depth == api.MaxDepth {
		fault.Throw(api.ErrDepth, r.word.At)
	}
	r.expect("{")
	r.depth++
	var l []*tree.Statement
	for !r.is("}") {
		l = append(l, r.statement())
	}
	r.next()
	r.depth--
	return l
}
