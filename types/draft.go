package types

import (
	"math"
	"strings"
)

// draft: how a type's text is written, step by step. What a cell is may stand in a type more often than could be counted, but its text is the same each time: so there are few steps, even to a text that is longer than any memory.
type draft struct {
	naming
	steps  []step
	length int64        // of the text; math.MaxInt64: that, or more
	stands map[int]step // by the cells' numbers: the step that writes the text of one once more
}

// step: writes a text, or once more what stands already from one place to another.
type step struct {
	text     string
	from, to int64
}

func draftOf(t Type, n naming) *draft {
	d := &draft{naming: n, stands: map[int]step{}}
	d.add(t)
	return d
}

// text: the text itself. Whoever asks for it has seen to it that there is room for one so long.
func (d *draft) text() string {
	var b strings.Builder
	b.Grow(int(d.length))
	for _, s := range d.steps {
		b.WriteString(s.text)
		b.WriteString(b.String()[s.from:s.to])
	}
	return b.String()
}

func (d *draft) put(s step) {
	d.steps = append(d.steps, s)
	more := int64(len(s.text)) + s.to - s.from
	d.length += min(more, math.MaxInt64-d.length)
}

func (d *draft) word(text string) { d.put(step{text: text}) }

// add: the text of a type, behind what stands already.
func (d *draft) add(t Type) {
	c, ok := t.(*Cell)
	if !ok {
		d.addFirst(t)
		return
	}
	number := c.last().number
	again, stands := d.stands[number]
	if stands {
		d.put(again)
		return
	}
	from := d.length
	d.addFirst(c)
	d.stands[number] = step{from: from, to: d.length}
}

// addFirst: that of one that does not stand there yet, or is no cell (of those there are few).
func (d *draft) addFirst(t Type) {
	switch t := now(t).(type) {
	case *Basic:
		d.word(t.Text)
	case *Var:
		d.word(d.any(t.Name))
	case *Cell:
		d.word(d.own(t.number))
	case *List:
		d.word("[")
		d.add(t.Of)
		d.word("]")
	case *Pair:
		d.word("(")
		d.add(t.Left)
		d.word(", ")
		d.add(t.Right)
		d.word(")")
	case *Arrow:
		d.addFrom(t.From)
		d.word(" -> ")
		d.add(t.To)
	}
}

// addFrom: that of the left side of an arrow. Without brackets, one that is an arrow would take the right side in.
func (d *draft) addFrom(t Type) {
	if _, arrow := now(t).(*Arrow); !arrow {
		d.add(t)
		return
	}
	d.word("(")
	d.add(t)
	d.word(")")
}
