// Package types holds the types of the language: what they are made of, how they are read and how they are written, what one must stand for to become another, and how they are found out.
package types

import "typer/api"

// Type: a type: one of those below, or a Cell, by pointer.
type Type interface {
	// Below: the types right below it, in order, in a new list.
	Below() []Type
}

// Basic: int or bool.
type Basic struct {
	Text string
}

// Var: a variable that stands for any type.
type Var struct {
	Name string
}

// List: [Of].
type List struct {
	Of Type
}

// Pair: (Left, Right).
type Pair struct {
	Left, Right Type
}

// Arrow: From -> To.
type Arrow struct {
	From, To Type
}

func (t *Basic) Below() []Type { return nil }

func (t *Var) Below() []Type { return nil }

func (t *List) Below() []Type { return []Type{t.Of} }

func (t *Pair) Below() []Type { return []Type{t.Left, t.Right} }

func (t *Arrow) Below() []Type { return []Type{t.From, t.To} }

// alike: are the two made in the same way, whatever of?
func alike(a, b Type) bool {
	switch a := a.(type) {
	case *Basic:
		b, ok := b.(*Basic)
		return ok && a.Text == b.Text
	case *List:
		_, ok := b.(*List)
		return ok
	case *Pair:
		_, ok := b.(*Pair)
		return ok
	case *Arrow:
		_, ok := b.(*Arrow)
		return ok
	}
	return false
}

// like: made as t is, but of those below.
func like(t Type, below []Type) Type {
	switch t.(type) {
	case *List:
		return &List{Of: below[0]}
	case *Pair:
		return &Pair{Left: below[0], Right: below[1]}
	case *Arrow:
		return &Arrow{From: below[0], To: below[1]}
	}
	return t
}

// Big: is the type's size above api.MaxSize?
func Big(t Type) bool { return room(t, api.MaxSize) < 0 }

// room: what is left of so much room beside the type; below 0, if it is too big. It goes no further then: what is found out of a type can make it greater than could be counted.
func room(t Type, left int) int {
	left--
	for _, below := range t.Below() {
		if left < 0 {
			return left
		}
		left = room(below, left)
	}
	return left
}
