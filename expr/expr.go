// Package expr holds the expressions of the language: what they are made of, how they are read and how they are written.
package expr

// Exp: an expression: one of the types below, by pointer.
type Exp interface {
	// Depth: how deep the expression is.
	Depth() int
}

// part: what all expressions have. The depth is kept, not worked out anew, so that asking for it costs nothing at any part.
type part struct {
	depth int
}

// Depth: how deep the expression is.
func (p part) Depth() int { return p.depth }

// above: the part that has these right below it.
func above(below ...Exp) part {
	deepest := 0
	for _, e := range below {
		deepest = max(deepest, e.Depth())
	}
	return part{depth: deepest + 1}
}

// Name: a name that is used, and the place where it stands.
type Name struct {
	part
	Text string
	At   int
}

// Number: a number, as it was written.
type Number struct {
	part
	Text string
}

// Fun: fun Param -> Body.
type Fun struct {
	part
	Param string
	Body  Exp
}

// If: if Cond then Yes else No.
type If struct {
	part
	Cond, Yes, No Exp
}

// Bind: a name and what it is.
type Bind struct {
	Name  string
	Value Exp
}

// Let: let Bind in Body.
type Let struct {
	part
	Bind Bind
	Body Exp
}

// LetRec: let rec, the group of its names, in Body.
type LetRec struct {
	part
	Group []Bind
	Body  Exp
}

// Apply: Fun applied to Arg.
type Apply struct {
	part
	Fun, Arg Exp
}

// Pair: (Left, Right).
type Pair struct {
	part
	Left, Right Exp
}
