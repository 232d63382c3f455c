package infer_test

import (
	"math/rand/v2"
	"slices"
	"strings"
	"testing"

	"typer/api"
)

// anyLinks makes applications that link outer variables, in order: each makes one of them some type of others. Mostly each is of the next one, so that the first grows far beyond what a part may be, and none is asked for again by then.
func anyLinks(r *rand.Rand, outer []string) []*term {
	var links []*term
	for k := range 1 + r.IntN(len(outer)-1) {
		of, by := k, k+1
		if r.IntN(8) == 0 {
			of, by = r.IntN(len(outer)), r.IntN(len(outer))
		}
		link := &term{kind: "name", name: words("link0 link1 link2")[r.IntN(3)]}
		link = &term{kind: "apply", below: []*term{link, {kind: "name", name: outer[by]}}}
		links = append(links, &term{kind: "apply", below: []*term{link, {kind: "name", name: outer[of]}}})
	}
	return links
}

// linked makes a group of names in whose last body outer variables are linked; in those ahead of it they stand, one by one and together.
func linked(r *rand.Rand) *term {
	outer := words("v w x y z")
	some := func(names []string) *term { return &term{kind: "name", name: names[r.IntN(len(names))]} }
	f, g := some(outer[:2]), &term{kind: "pair", below: []*term{some(outer), some(outer)}}
	if r.IntN(3) == 0 {
		g = &term{kind: "fun", name: "n", below: []*term{{kind: "pair", below: []*term{some(outer), some(words("n f g"))}}}}
	}
	h := &term{kind: "number", name: "1"}
	for _, link := range slices.Backward(anyLinks(r, outer)) {
		h = &term{kind: "pair", below: []*term{link, h}}
	}
	e := &term{kind: "rec", group: words("f g h"), below: []*term{f, g, h, {kind: "name", name: "h"}}}
	for _, name := range outer {
		e = &term{kind: "fun", name: name, below: []*term{e}}
	}
	return e
}

// linkTypes makes an environment of three links, in whose types a stands three or four times.
func linkTypes(r *rand.Rand) []given {
	var env []given
	for _, name := range words("link0 link1 link2") {
		var s shape
		for n := 0; n < 3 || n > 4; n = strings.Count(s.text(), "a") {
			s = anyShape(r, 5, words("a a a a c"))
		}
		env = append(env, whole(name, arrow(shape{head: "a"}, arrow(s, shape{head: "int"}))))
	}
	return env
}

func TestP6MadeGreatSchemes(t *testing.T) {
	r := rand.New(rand.NewPCG(6, 14))
	tried := map[string]int{}
	for range 1500 {
		watchedPlainly(t, linked(r), linkTypes(r), 1+r.IntN(4), r.IntN(3), tried)
	}
	allTried(t, tried, map[string]int{"great": 150, api.ErrType.Error(): 50, api.ErrBig.Error(): 50, api.ErrFuel.Error(): 50, api.ErrStopped.Error(): 50})
}
