// Package types holds the types of the language: what they are made of, how they are read and how they are written, and what one must stand for to become another.
package types

// Type: a type: one of those below, by pointer.
type Type interface {
	// Size: how many types it is made of, itself among them.
	Size() int
}

// Basic: int or bool.
type Basic struct {
	Text string
}

// Var: a variable.
type Var struct {
	Name string
}

// List: [Of].
type List struct {
	Of Type
}

// Pair: (Left, Right).
type Pair struct {
	Left, Right Type
}

// Arrow: From -> To.
type Arrow struct {
	From, To Type
}

func (t *Basic) Size() int { return 1 }

func (t *Var) Size() int { return 1 }

func (t *List) Size() int { return 1 + t.Of.Size() }

func (t *Pair) Size() int { return 1 + t.Left.Size() + t.Right.Size() }

func (t *Arrow) Size() int { return 1 + t.From.Size() + t.To.Size() }
