package types

import (
	"strconv"
	"strings"
)

// naming: how variables are called in texts. It is asked in the order in which they stand.
type naming struct {
	any func(name string) string // one that stands for any type, by its own name
	own func(number int) string  // one that stands for itself alone, by its cell's number
}

// OneText: the one text of a type.
func OneText(t Type) string { return naming{any: letters[string]("")}.text(t) }

// OwnText: as the one text is, but with the type's own names for its variables. The text of a lone variable would be a piece of the text it was read from, if it were not copied.
func OwnText(t Type) string {
	return strings.Clone(naming{any: func(name string) string { return name }}.text(t))
}

// Texts: those of schemes that are told together: what stands for any type is called anew in each, what stands for itself alone is the same in all.
func Texts(schemes []Scheme) []string {
	own := letters[int]("_")
	var texts []string
	for _, s := range schemes {
		texts = append(texts, naming{any: letters[string](""), own: own}.text(s.Type))
	}
	return texts
}

func (n naming) text(t Type) string {
	switch t := now(t).(type) {
	case *Basic:
		return t.Text
	case *Var:
		return n.any(t.Name)
	case *Cell:
		return n.own(t.number)
	case *List:
		return "[" + n.text(t.Of) + "]"
	case *Pair:
		left := n.text(t.Left)
		return "(" + left + ", " + n.text(t.Right) + ")"
	case *Arrow:
		from := n.from(t.From)
		return from + " -> " + n.text(t.To)
	}
	return ""
}

// from: the left side of an arrow. Without brackets, one that is an arrow would take the right side in.
func (n naming) from(t Type) string {
	text := n.text(t)
	if _, arrow := now(t).(*Arrow); arrow {
		return "(" + text + ")"
	}
	return text
}

// letters: a, b and so on, behind a mark, in the order in which they are asked for.
func letters[K comparable](mark string) func(key K) string {
	number := inOrder[K]()
	return func(key K) string { return mark + nthName(number(key)) }
}

// inOrder: numbers keys, from 0 on, in the order in which they are first asked for.
func inOrder[K comparable]() func(key K) int {
	numbers := map[K]int{}
	return func(key K) int {
		n, known := numbers[key]
		if !known {
			n = len(numbers)
			numbers[key] = n
		}
		return n
	}
}

// nthName: a, b, .., z, a1, .., z1, a2 and so on, from 0 on.
func nthName(n int) string {
	const letters = 26
	letter := string(rune('a' + n%letters))
	if n < letters {
		return letter
	}
	return letter + strconv.Itoa(n/letters)
}
