package types

import (
	"strconv"
	"strings"
)

// OneText: the one text of a type.
func OneText(t Type) string { return textBy(t, inOrder()) }

// OwnText: as the one text is, but with the type's own names for its variables. The text of a lone variable would be a piece of the text it was read from, if it were not copied.
func OwnText(t Type) string {
	return strings.Clone(textBy(t, func(v *Var) string { return v.Name }))
}

// textBy: a type's text. It asks for the variables' names in the order in which they stand.
func textBy(t Type, name func(v *Var) string) string {
	switch t := t.(type) {
	case *Basic:
		return t.Text
	case *Var:
		return name(t)
	case *List:
		return "[" + textBy(t.Of, name) + "]"
	case *Pair:
		left := textBy(t.Left, name)
		return "(" + left + ", " + textBy(t.Right, name) + ")"
	case *Arrow:
		from := fromBy(t.From, name)
		return from + " -> " + textBy(t.To, name)
	}
	return ""
}

// fromBy: the left side of an arrow. Without brackets, one that is an arrow would take the right side in.
func fromBy(t Type, name func(v *Var) string) string {
	text := textBy(t, name)
	if _, arrow := t.(*Arrow); arrow {
		return "(" + text + ")"
	}
	return text
}

// inOrder: names variables by the order in which they are first asked for.
func inOrder() func(v *Var) string {
	numbers := map[string]int{}
	return func(v *Var) string {
		n, known := numbers[v.Name]
		if !known {
			n = len(numbers)
			numbers[v.Name] = n
		}
		return nthName(n)
	}
}

// nthName: a, b, .., z, a1, .., z1, a2 and so on, from 0 on.
func nthName(n int) string {
	const letters = 26
	letter := string(rune('a' + n%letters))
	if n < letters {
		return letter
	}
	return letter + strconv.Itoa(n/letters)
}
