package types

// Cell: a type that is found out as typing goes on: a variable that stands for itself alone, as long as nothing is known of it. What is known to be made of types is made of cells: so each type of which another is made has a cell, and two that are equal can be made one, however often they stand in others.
type Cell struct {
	number int
	is     Type // nil: nothing is known; a cell: the same as that; else what it is
}

// Cells: makes cells, each with a number of its own.
type Cells struct {
	made int
}

// Of: a new cell that is a type made of cells; nil: one of which nothing is known.
func (m *Cells) Of(t Type) *Cell {
	m.made++
	return &Cell{number: m.made, is: t}
}

// Below: the types right below what the cell is.
func (c *Cell) Below() []Type {
	is := c.last().is
	if is == nil {
		return nil
	}
	return is.Below()
}

// last: the one of all that are the same as c that knows what they are. The way to it is cut short for the next time.
func (c *Cell) last() *Cell {
	next, same := c.is.(*Cell)
	if !same {
		return c
	}
	last := next.last()
	c.is = last
	return last
}

// now: what a type is, by what is known of it; a cell only if nothing is.
func now(t Type) Type {
	c, ok := t.(*Cell)
	if !ok {
		return t
	}
	last := c.last()
	if last.is == nil {
		return last
	}
	return last.is
}

// Equal: makes two cells equal in the most general way; false: there is none, and the cells are of no use any more.
func Equal(a, b *Cell) bool {
	return join(a, b) && !loops(a, map[int]int{})
}

// join: makes two cells one, and then those below them, even if one comes to stand within itself by that. Each time two become one there are fewer left: so it ends.
func join(a, b Type) bool {
	one, other := a.(*Cell).last(), b.(*Cell).last()
	if one == other {
		return true
	}
	was := one.is
	one.is = other
	if was == nil {
		return true
	}
	if other.is == nil {
		other.is = was
		return true
	}
	return alike(was, other.is) && joinAll(was.Below(), other.is.Below())
}

func joinAll(as, bs []Type) bool {
	for k := range as {
		if !join(as[k], bs[k]) {
			return false
		}
	}
	return true
}

// How far loops has come with a cell.
const (
	onTheWay = iota + 1
	done
)

// loops: does the type, or one below it, stand within itself? far: by the cells' numbers, so that none is gone through twice.
func loops(t Type, far map[int]int) bool {
	c := t.(*Cell).last()
	switch far[c.number] {
	case onTheWay:
		return true
	case done:
		return false
	}
	far[c.number] = onTheWay
	for _, below := range c.Below() {
		if loops(below, far) {
			return true
		}
	}
	far[c.number] = done
	return false
}
