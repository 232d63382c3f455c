package expr

import (
	"cmp"
	"slices"
)

// Unbound: the first name in the text that stands for nothing; nil: each stands for something. known: does a name stand for something outside of the expression?
func Unbound(e Exp, known func(name string) bool) *Name {
	switch e := e.(type) {
	case *Name:
		if known(e.Text) {
			return nil
		}
		return e
	case *Fun:
		return Unbound(e.Body, and(known, e.Param))
	case *If:
		return cmp.Or(Unbound(e.Cond, known), Unbound(e.Yes, known), Unbound(e.No, known))
	case *Let:
		return cmp.Or(Unbound(e.Bind.Value, known), Unbound(e.Body, and(known, e.Bind.Name)))
	case *LetRec:
		return unboundInGroup(e, known)
	case *Apply:
		return cmp.Or(Unbound(e.Fun, known), Unbound(e.Arg, known))
	case *Pair:
		return cmp.Or(Unbound(e.Left, known), Unbound(e.Right, known))
	}
	return nil
}

func unboundInGroup(e *LetRec, known func(name string) bool) *Name {
	var names []string
	for _, b := range e.Group {
		names = append(names, b.Name)
	}
	within := and(known, names...)
	for _, b := range e.Group {
		if name := Unbound(b.Value, within); name != nil {
			return name
		}
	}
	return Unbound(e.Body, within)
}

// and: known, and these names beside.
func and(known func(name string) bool, names ...string) func(name string) bool {
	return func(name string) bool { return slices.Contains(names, name) || known(name) }
}
