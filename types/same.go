package types

// Same: are two schemes the same, with all that is known by now, but for the names of what stands for any type?
func Same(a, b Scheme) bool {
	return sameness{one: inOrder[string](), other: inOrder[string]()}.of(a.Type, b.Type)
}

// sameness: two schemes that are gone through in step. What stands for any type has the number of its first place in either.
type sameness struct {
	one, other func(name string) int
}

func (s sameness) of(a, b Type) bool {
	a, b = now(a), now(b)
	if v, ok := a.(*Var); ok {
		w, ok := b.(*Var)
		return ok && s.one(v.Name) == s.other(w.Name)
	}
	if a == b {
		// One cell. What is known of it can be greater than could be gone through.
		return true
	}
	if !alike(a, b) {
		return false
	}
	below := b.Below()
	for k, t := range a.Below() {
		if !s.of(t, below[k]) {
			return false
		}
	}
	return true
}
