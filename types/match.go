package types

import (
	"strings"

	"typer/api"
)

// Match: the types, as texts, for the variables of general by which it becomes special; false: there are none.
func Match(general, special Type) (map[string]api.Typed, bool) {
	found := map[string]api.Typed{}
	if !fits(general, special, found) {
		return nil, false
	}
	return found, true
}

// fits: does special come of general, by what has been found already and what it finds on the way?
func fits(general, special Type, found map[string]api.Typed) bool {
	switch g := general.(type) {
	case *Var:
		return standsFor(g.Name, special, found)
	case *Basic:
		s, ok := special.(*Basic)
		return ok && g.Text == s.Text
	case *List:
		s, ok := special.(*List)
		return ok && fits(g.Of, s.Of, found)
	case *Pair:
		s, ok := special.(*Pair)
		return ok && fits(g.Left, s.Left, found) && fits(g.Right, s.Right, found)
	case *Arrow:
		s, ok := special.(*Arrow)
		return ok && fits(g.From, s.From, found) && fits(g.To, s.To, found)
	}
	return false
}

// standsFor: a variable stands for one type wherever it stands. Types are held against each other by their own texts: no two types have the same.
func standsFor(name string, t Type, found map[string]api.Typed) bool {
	is := api.Typed{Type: OwnText(t)}
	was, known := found[name]
	if !known {
		// The name is a piece of the text it was read from; the map is handed out, and shares nothing with that.
		found[strings.Clone(name)] = is
		return true
	}
	return was == is
}
