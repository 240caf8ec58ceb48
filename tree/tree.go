// Package tree: a program as it was written, and what its names stand for.
package tree

// Program is a program. Its statements stand in their functions' bodies, and here again, each at its place.
type Program struct {
	Declarations []*Declaration
	Statements   []*Statement
}

// Kind tells what is declared.
type Kind int

const (
	Variable Kind = iota
	Mutex
	Function
)

// Declaration declares a name. Params, Body and Locals are a function's; Locals is how many it has, its parameters among them.
type Declaration struct {
	Kind   Kind
	Name   Name
	Params []Name
	Body   []*Statement
	Locals int
}

// Name is a name, the byte at which it begins, and its number: among the locals of its function, the variables, the mutexes or the functions, whichever it is one of. No text: there is none.
type Name struct {
	Text   string
	At     int
	Number int
}

// Atom is a name or, if that has no text, a number.
type Atom struct {
	Name   Name
	Number int
}

// Statement is a statement of any kind; what its kind does not have is zero.
type Statement struct {
	At     int            // the byte at which it begins
	Place  int            // its number among all statements
	Kind   int            // api.SSet and so on
	Left   Name           // what is assigned, or whose field is
	Op     int            // api.ONone and so on
	Side   int            // of a field: 0 for l, 1 for r
	WordAt int            // the byte at which its word new or go begins
	Named  Name           // the function that is called or started; the mutex
	Right  []Atom         // from the left: what stands on the right, is handed over, joined, returned or tested
	Blocks [][]*Statement // of a while: one; of an if: one, or two with an else
}
