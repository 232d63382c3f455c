package types

import (
	"strings"

	"typer/api"
)

// Match: the types, as texts, for the variables of general by which it becomes special; false: there are none.
func Match(general, special Type) (map[string]api.Typed, bool) {
	found := map[string]api.Typed{}
	if !fits(general, special, found) {
		return nil, false
	}
	return found, true
}

// fits: does special come of general, by what has been found already and what it finds on the way?
func fits(general, special Type, found map[string]api.Typed) bool {
	if v, ok := general.(*Var); ok {
		return standsFor(v.Name, special, found)
	}
	if !alike(general, special) {
		return false
	}
	below := special.Below()
	for k, g := range general.Below() {
		if !fits(g, below[k], found) {
			return false
		}
	}
	return true
}

// standsFor: a variable stands for one type wherever it stands. Types are held against each other by their own texts: no two types have the same.
func standsFor(name string, t Type, found map[string]api.Typed) bool {
	is := api.Typed{Type: OwnText(t)}
	was, known := found[name]
	if !known {
		// The name is a piece of the text it was read from; the map is handed out, and shares nothing with that.
		found[strings.Clone(name)] = is
		return true
	}
	return was == is
}
