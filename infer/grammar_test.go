package infer_test

import (
	"errors"
	"slices"
	"testing"

	"typer/api"
)

// grammar: a grammar of the document; the call that reads by it; all the tokens there are, one of each kind.
type grammar struct {
	promise string
	ask     func(text string) (string, error)
	rules   func(of string) [][]string
	kinds   []string
}

// opened: all that a list of what is still to come may be, with a token first, or with nothing left.
func (g grammar) opened(todo []string) [][]string {
	if len(todo) == 0 || g.rules(todo[0]) == nil {
		return [][]string{todo}
	}
	var out [][]string
	for _, rule := range g.rules(todo[0]) {
		out = append(out, g.opened(slices.Concat(rule, todo[1:]))...)
	}
	return out
}

// behind: what may be to come behind one more token.
func (g grammar) behind(todos [][]string, token string) [][]string {
	var out [][]string
	for _, todo := range todos {
		if len(todo) > 0 && todo[0] == token {
			out = append(out, g.opened(todo[1:])...)
		}
	}
	return out
}

// spelt: a token of that kind: no name twice, so that none can stand in a let rec already.
func spelt(kind string, nth int) string {
	switch kind {
	case "name":
		return "n" + string(rune('a'+nth))
	case "number":
		return "7"
	}
	return kind
}

// refuses: the call answers a *SyntaxError at that place, and the empty text.
func (g grammar) refuses(t *testing.T, text string, at int) {
	t.Helper()
	var s *api.SyntaxError
	if got, err := g.ask(text); got != "" || !errors.As(err, &s) || s.At != at {
		t.Fatalf("%s: of %q: %q, %v, want a *SyntaxError at %d", g.promise, text, got, err, at)
	}
}

// walk goes through all texts of up to some more tokens that may be beginnings, and asks of each next token whether the call refuses just what the grammar does.
func (g grammar) walk(t *testing.T, todos [][]string, text string, nth, more int) {
	whole := slices.ContainsFunc(todos, func(todo []string) bool { return len(todo) == 0 })
	if got, err := g.ask(text); whole != (err == nil) || whole != (got != "") {
		t.Fatalf("%s: of %q: %q, %v; all of it can stand: %v", g.promise, text, got, err, whole)
	}
	if !whole {
		g.refuses(t, text, len(text))
	}
	if more == 0 {
		return
	}
	for _, kind := range g.kinds {
		longer := text + spelt(kind, nth) + " "
		if next := g.behind(todos, kind); next != nil {
			g.walk(t, next, longer, nth+1, more-1)
		} else {
			g.refuses(t, longer+"x ) #", len(text))
		}
	}
}

// walkFrom begins a walk behind each of some beginnings: those that it would not come to in so few steps.
func (g grammar) walkFrom(t *testing.T, of string, more int, starts []string) {
	for _, start := range starts {
		todos, text, tokens := g.opened([]string{of}), "", words(start)
		for nth, kind := range tokens {
			todos, text = g.behind(todos, kind), text+spelt(kind, nth)+" "
		}
		g.walk(t, todos, text, len(tokens), more)
	}
}
