package types

import "strconv"

// Scheme: a type whose variables (Var) stand for any type; those of its cells of which nothing is known stand for themselves alone.
type Scheme struct {
	Type Type
}

// Any: the scheme 'any type'.
func Any() Scheme { return Scheme{Type: &Var{Name: "a"}} }

// Reached: the cells, by number, that stand in some types.
type Reached map[int]struct{}

// Add: and those of t.
func (r Reached) Add(t Type) {
	if c, ok := t.(*Cell); ok {
		number := c.last().number
		if _, was := r[number]; was {
			return
		}
		r[number] = struct{}{}
	}
	for _, below := range t.Below() {
		r.Add(below)
	}
}

// General: the scheme of a cell in which all variables stand for any type but those that are reached.
func General(c *Cell, but Reached) Scheme { return Scheme{Type: general(c, but)} }

func general(t Type, but Reached) Type {
	c := t.(*Cell).last()
	if _, reached := but[c.number]; reached {
		// So is all below it.
		return c
	}
	if c.is == nil {
		return &Var{Name: strconv.Itoa(c.number)}
	}
	below := c.Below()
	for k, b := range below {
		below[k] = general(b, but)
	}
	return like(c.is, below)
}

// Instance: a scheme's type, with fresh cells for its variables.
func (m *Cells) Instance(s Scheme) *Cell {
	return m.instance(s.Type, map[string]*Cell{})
}

func (m *Cells) instance(t Type, fresh map[string]*Cell) *Cell {
	switch t := t.(type) {
	case *Cell:
		return t
	case *Var:
		c, known := fresh[t.Name]
		if !known {
			c = m.Of(nil)
			fresh[t.Name] = c
		}
		return c
	}
	below := t.Below()
	for k, b := range below {
		below[k] = m.instance(b, fresh)
	}
	return m.Of(like(t, below))
}
