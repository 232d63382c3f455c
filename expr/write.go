package expr

import "strings"

// Text: the one text of an expression.
func Text(e Exp) string {
	switch e := e.(type) {
	case *Name:
		return e.Text
	case *Number:
		return e.Text
	case *Fun:
		return "fun " + e.Param + " -> " + Text(e.Body)
	case *If:
		return "if " + Text(e.Cond) + " then " + Text(e.Yes) + " else " + Text(e.No)
	case *Let:
		return "let " + bindText(e.Bind) + " in " + Text(e.Body)
	case *LetRec:
		return "let rec " + groupText(e.Group) + " in " + Text(e.Body)
	case *Apply:
		return funText(e.Fun) + " " + argText(e.Arg)
	case *Pair:
		return "(" + Text(e.Left) + ", " + Text(e.Right) + ")"
	}
	return ""
}

func bindText(b Bind) string { return b.Name + " = " + Text(b.Value) }

func groupText(group []Bind) string {
	var texts []string
	for _, b := range group {
		texts = append(texts, bindText(b))
	}
	return strings.Join(texts, " and ")
}

// funText: a function that is applied. What reaches on as far as it can would take in what it is applied to, if it stood without brackets.
func funText(e Exp) string {
	switch e.(type) {
	case *Fun, *If, *Let, *LetRec:
		return "(" + Text(e) + ")"
	}
	return Text(e)
}

// argText: what a function is applied to: an atom.
func argText(e Exp) string {
	switch e.(type) {
	case *Name, *Number, *Pair:
		return Text(e)
	}
	return "(" + Text(e) + ")"
}
