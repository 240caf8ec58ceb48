// Package words takes a text apart into words (P3).
package words

import (
	"strings"

	"races/api"
	"races/fault"
)

// Kind tells words apart.
type Kind int

const (
	End    Kind = iota // the text's end
	Name               // a name
	Number             // a number
	Fixed              // a sign, or a word that is no name
)

// Word is a word, and the byte at which it begins.
type Word struct {
	Kind Kind
	Text string
	At   int
}

// Reader tells a text's words, one after another.
type Reader struct {
	text string
	at   int
}

// NewReader begins at a text's first byte; it throws ErrLong.
func NewReader(text string) *Reader {
	if len(text) > api.MaxText {
		fault.Throw(api.ErrLong, 0)
	}
	return &Reader{text: text}
}

// Next reads the next word; it throws ErrChar, ErrName and ErrNumber.
func (r *Reader) Next() Word {
	r.at += r.run(isBlank)
	if r.at == len(r.text) {
		return Word{Kind: End, At: r.at}
	}
	switch c := r.text[r.at]; {
	case isLetter(c):
		return r.name()
	case isDigit(c):
		return r.number()
	}
	return r.sign()
}

func (r *Reader) name() Word {
	length := r.run(isLetterOrDigit)
	if length > api.MaxName {
		fault.Throw(api.ErrName, r.at)
	}
	w := r.take(Name, length)
	if isReserved(w.Text) {
		w.Kind = Fixed
	}
	return w
}

func (r *Reader) number() Word {
	length := r.run(isDigit)
	if length > api.MaxDigits {
		fault.Throw(api.ErrNumber, r.at)
	}
	return r.take(Number, length)
}

func (r *Reader) sign() Word {
	if strings.HasPrefix(r.text[r.at:], "==") {
		return r.take(Fixed, 2)
	}
	if !isSign(r.text[r.at]) {
		fault.Throw(api.ErrChar, r.at)
	}
	return r.take(Fixed, 1)
}

// run counts the bytes from here on that belong together.
func (r *Reader) run(belongs func(c byte) bool) int {
	end := r.at
	for end < len(r.text) && belongs(r.text[end]) {
		end++
	}
	return end - r.at
}

// take makes a word of the bytes from here on, and goes behind them.
func (r *Reader) take(kind Kind, length int) Word {
	// A copy: names outlive the reading, the text that was handed in must not.
	text := strings.Clone(r.text[r.at : r.at+length])
	w := Word{Kind: kind, Text: text, At: r.at}
	r.at += length
	return w
}

func isBlank(c byte) bool { return c == ' ' || c == '\n' }

func isLetter(c byte) bool { return 'a' <= c && c <= 'z' }

func isDigit(c byte) bool { return '0' <= c && c <= '9' }

func isLetterOrDigit(c byte) bool { return isLetter(c) || isDigit(c) }

func isSign(c byte) bool { return strings.IndexByte(";{}(),.+-<=", c) >= 0 }

func isReserved(text string) bool {
	switch text {
	case "var", "mutex", "func", "lock", "unlock", "join", "return", "if", "else", "while", "go", "new":
		return true
	}
	return false
}
