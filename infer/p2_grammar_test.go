package infer_test

import (
	"errors"
	"math/rand/v2"
	"slices"
	"strings"
	"testing"

	"typer/api"
	"typer/infer"
)

// expRules: the document's grammar of expressions, word for word: name and number are tokens of their kinds; ands and atoms are what may stand any number of times.
func expRules(of string) [][]string {
	switch of {
	case "exp":
		return [][]string{
			{"fun", "name", "->", "exp"},
			{"if", "exp", "then", "exp", "else", "exp"},
			{"let", "name", "=", "exp", "in", "exp"},
			{"let", "rec", "name", "=", "exp", "ands", "in", "exp"},
			{"atom", "atoms"},
		}
	case "ands":
		return [][]string{{}, {"and", "name", "=", "exp", "ands"}}
	case "atoms":
		return [][]string{{}, {"atom", "atoms"}}
	case "atom":
		return [][]string{{"name"}, {"number"}, {"(", "exp", ")"}, {"(", "exp", ",", "exp", ")"}}
	}
	return nil
}

func TestP2Grammar(t *testing.T) {
	g := grammar{
		promise: "P2",
		ask:     infer.Show,
		rules:   expRules,
		kinds:   words("fun let rec and in if then else -> = ( ) , [ ] name number"),
	}
	g.walkFrom(t, "exp", 6, []string{
		"",
		"let rec name = number",
		"let rec name = number and name = number",
		"let rec name = let rec name = number in number",
		"if number then number else",
		"( fun name -> number , let name = number",
		"( ( number , number )",
	})
}

// made: an expression that a test has made: the tokens of its one text; tokens of another text of it; what it is; how deep it is.
type made struct {
	tight, loose []string
	kind         string
	deep         int
}

func cat(lists ...[]string) []string { return slices.Concat(lists...) }

func words(s string) []string { return strings.Fields(s) }

// bracketed: the tokens, within some brackets.
func bracketed(loose []string, n int) []string {
	for range n {
		loose = cat(words("("), loose, words(")"))
	}
	return loose
}

// anyOf makes an expression of any kind, not much deeper than room.
func anyOf(r *rand.Rand, room int) made {
	kind := []string{"name", "number", "fun", "if", "let", "rec", "apply", "apply", "pair"}[r.IntN(9)]
	if room <= 1 {
		kind = []string{"name", "number"}[r.IntN(2)]
	}
	one := func() made { return anyOf(r, room-1-r.IntN(2)) }
	m := made{kind: kind}
	build := func(head string, rest ...any) {
		m.tight, m.loose = words(head), words(head)
		for _, x := range rest {
			switch x := x.(type) {
			case string:
				m.tight, m.loose = cat(m.tight, words(x)), cat(m.loose, words(x))
			case made:
				m.tight, m.loose, m.deep = cat(m.tight, x.tight), cat(m.loose, x.loose), max(m.deep, x.deep)
			}
		}
		m.deep++
	}
	switch kind {
	case "name":
		build([]string{"x", "y1", "abcdefgh", "n0"}[r.IntN(4)])
	case "number":
		build([]string{"0", "42", "12345678"}[r.IntN(3)])
	case "fun":
		build("fun x ->", one())
	case "if":
		build("if", one(), "then", one(), "else", one())
	case "let":
		build("let x =", one(), "in", one())
	case "rec":
		if r.IntN(2) == 0 {
			build("let rec x =", one(), "in", one())
		} else {
			build("let rec x =", one(), "and y =", one(), "in", one())
		}
	case "apply":
		build("", function(one()), argument(one()))
	case "pair":
		build("(", one(), ",", one(), ")")
	}
	m.loose = bracketed(m.loose, max(0, r.IntN(5)-3))
	return m
}

// function, argument: an expression where it is applied, or where another is applied to it.
func function(m made) made {
	switch m.kind {
	case "fun", "if", "let", "rec":
		m.tight = bracketed(m.tight, 1)
		m.loose = bracketed(m.loose, 1)
	}
	return m
}

func argument(m made) made {
	switch m.kind {
	case "name", "number", "pair":
		return m
	}
	m.tight, m.loose = bracketed(m.tight, 1), bracketed(m.loose, 1)
	return m
}

// oneText: tokens with one blank between, but none behind ( and ahead of ) and of a comma.
func oneText(tokens []string) string {
	return strings.NewReplacer("( ", "(", " )", ")", " ,", ",").Replace(strings.Join(tokens, " "))
}

// spread: tokens with any blanks about them, and none where none are needed.
func spread(r *rand.Rand, tokens []string) string {
	isWord := func(s string) bool { return s[0] >= 'a' || s[0] >= '0' && s[0] <= '9' }
	text := ""
	for k, token := range tokens {
		if k > 0 && isWord(tokens[k-1]) && isWord(token) {
			text += []string{" ", "\n"}[r.IntN(2)]
		}
		text += []string{"", "", "", " ", "\n", " \n"}[r.IntN(6)] + token
	}
	return text
}

func TestP2MadeExpressions(t *testing.T) {
	r := rand.New(rand.NewPCG(1, 2))
	long, tooDeep, shown := 0, 0, 0
	for range 6000 {
		m := anyOf(r, 1+r.IntN(8))
		for range r.IntN(50) * r.IntN(2) {
			m = function(m)
			m = made{tight: cat(m.tight, words("x")), loose: cat(m.loose, words("x")), kind: "apply", deep: m.deep + 1}
		}
		src := spread(r, m.loose)
		switch {
		case len(src) > api.MaxText:
			long++
			refusedBy(t, src, api.ErrLong)
		case m.deep > api.MaxDepth:
			tooDeep++
			refusedBy(t, src, api.ErrDeep)
		default:
			shown++
			shows(t, src, oneText(m.tight))
			spoil(t, r, src)
		}
	}
	if long < 100 || tooDeep < 100 || shown < 1000 {
		t.Errorf("too few of a kind were made: %d too long, %d too deep, %d others", long, tooDeep, shown)
	}
}

// spoil cuts off an expression at a byte: what is left is one, or ends too soon. With what is no token behind it, that is what is wrong.
func spoil(t *testing.T, r *rand.Rand, src string) {
	t.Helper()
	var s *api.SyntaxError
	cut := src[:r.IntN(len(src)+1)]
	if strings.HasSuffix(cut, "-") {
		refusedAt(t, cut, len(cut)-1)
		return
	}
	if text, err := infer.Show(cut); err != nil && (text != "" || !errors.As(err, &s) || s.At != len(cut)) {
		t.Errorf("P2: Show(%q) = %q, %v, want a *SyntaxError at %d, or none", cut, text, err, len(cut))
	}
	if len(cut) < api.MaxText {
		refusedAt(t, cut+"?", len(cut))
	}
}
