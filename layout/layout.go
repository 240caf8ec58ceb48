// Package layout writes a program's text, one statement a line (P5).
package layout

import (
	"strconv"
	"strings"

	"races/api"
	"races/tree"
)

// writer writes lines, each as far in as blocks are open.
type writer struct {
	text  strings.Builder
	depth int
}

// Text writes a program.
func Text(p *tree.Program) string {
	w := &writer{}
	for _, d := range p.Declarations {
		w.declaration(d)
	}
	return w.text.String()
}

func (w *writer) line(text string) {
	w.text.WriteString(strings.Repeat("  ", w.depth))
	w.text.WriteString(text)
	w.text.WriteByte('\n')
}

func (w *writer) declaration(d *tree.Declaration) {
	switch d.Kind {
	case tree.Variable:
		w.line("var " + d.Name.Text + ";")
	case tree.Mutex:
		w.line("mutex " + d.Name.Text + ";")
	case tree.Function:
		w.line("func " + d.Name.Text + list(d.Params, name) + " {")
		w.block(d.Body)
		w.line("}")
	}
}

func (w *writer) block(l []*tree.Statement) {
	w.depth++
	for _, s := range l {
		w.statement(s)
	}
	w.depth--
}

func (w *writer) statement(s *tree.Statement) {
	if len(s.Blocks) == 0 {
		w.line(left(s) + right(s) + ";")
		return
	}
	w.line(right(s) + " {")
	for i, b := range s.Blocks {
		if i > 0 {
			w.line("} else {")
		}
		w.block(b)
	}
	w.line("}")
}

// left: what is assigned, with the sign behind it.
func left(s *tree.Statement) string {
	switch {
	case s.Left.Text == "":
		return ""
	case s.Kind == api.SPut:
		return s.Left.Text + side(s) + " = "
	}
	return s.Left.Text + " = "
}

// right: all of a statement but what is assigned, its blocks and its semicolon.
func right(s *tree.Statement) string {
	switch s.Kind {
	case api.SGet:
		return atom(s.Right[0]) + side(s)
	case api.SNew:
		return "new"
	case api.SGo:
		return "go " + s.Named.Text + list(s.Right, atom)
	case api.SCall:
		return s.Named.Text + list(s.Right, atom)
	case api.SJoin:
		return "join " + atom(s.Right[0])
	case api.SLock:
		return "lock " + s.Named.Text
	case api.SUnlock:
		return "unlock " + s.Named.Text
	case api.SReturn:
		return returned(s)
	case api.SIf:
		return "if " + atom(s.Right[0])
	case api.SWhile:
		return "while " + atom(s.Right[0])
	}
	return sum(s)
}

func returned(s *tree.Statement) string {
	if len(s.Right) == 0 {
		return "return"
	}
	return "return " + atom(s.Right[0])
}

func sum(s *tree.Statement) string {
	if s.Op == api.ONone {
		return atom(s.Right[0])
	}
	return atom(s.Right[0]) + " " + operator(s.Op) + " " + atom(s.Right[1])
}

func operator(op int) string {
	switch op {
	case api.OPlus:
		return "+"
	case api.OMinus:
		return "-"
	case api.OLess:
		return "<"
	case api.OSame:
		return "=="
	}
	return ""
}

func side(s *tree.Statement) string {
	if s.Side == 0 {
		return ".l"
	}
	return ".r"
}

func name(n tree.Name) string { return n.Text }

func atom(a tree.Atom) string {
	if a.Name.Text != "" {
		return a.Name.Text
	}
	return strconv.Itoa(a.Number)
}

// list: between parentheses, parted by commas, each as the function writes it.
func list[T any](l []T, write func(T) string) string {
	var texts []string
	for _, x := range l {
		texts = append(texts, write(x))
	}
	return "(" + strings.Join(texts, ", ") + ")"
}
