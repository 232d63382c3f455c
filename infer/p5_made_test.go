package infer_test

import (
	"errors"
	"math/rand/v2"
	"slices"
	"strconv"
	"strings"
	"testing"

	"typer/api"
)

// group: the names of a let rec, with their schemes of the last round.
func (p *plainly) group(e *term, names []given) []given {
	var ahead []given
	for _, name := range e.group {
		ahead = append(ahead, whole(name, shape{head: "any"}))
	}
	for round := 1; round <= p.fuel; round++ {
		in := append(names[:len(names):len(names)], ahead...)
		var found []shape
		for k := range e.group {
			found = append(found, p.typ(e.below[k], in))
		}
		var next []given
		for k, name := range e.group {
			s := p.now(found[k])
			next = append(next, given{name, s, p.any(s, names)})
		}
		p.rounds = append(p.rounds, strings.Join(e.group, " ")+" "+strconv.Itoa(round)+": "+p.called(next, true))
		if p.called(ahead, false) == p.called(next, false) {
			return next
		}
		ahead = next
	}
	panic(api.ErrFuel)
}

// called: the texts of schemes, in which what stands for any type is called a, b and so on in each; and the others _a, _b and so on, if they are told, else as they are.
func (p *plainly) called(schemes []given, told bool) string {
	var texts, own []string
	for _, n := range schemes {
		var any []string
		s := n.typ.with(func(name string) shape {
			if !n.any[name] {
				return p.now(shape{head: name})
			}
			return shape{head: "any " + nthOf(&any, name)}
		})
		texts = append(texts, s.with(func(name string) shape {
			if letter, any := strings.CutPrefix(name, "any "); any {
				return shape{head: letter}
			}
			if told {
				return shape{head: "_" + nthOf(&own, name)}
			}
			return shape{head: name}
		}).text())
	}
	return strings.Join(texts, ", ")
}

// nthOf: the letter of a name, by when it was first asked for.
func nthOf(seen *[]string, name string) string {
	if !slices.Contains(*seen, name) {
		*seen = append(*seen, name)
	}
	n := slices.Index(*seen, name)
	return string(rune('a'+n%26)) + []string{"", "1", "2", "3", "4"}[n/26]
}

// watchedPlainly: does Watch answer and tell what it should, stopped at that round, or never (0)? tried: how often what has been asked for.
func watchedPlainly(t *testing.T, e *term, env []given, fuel, stop int, tried map[string]int) {
	t.Helper()
	src, types := e.write(""), typesOf(env)
	want := plainType(e, env, fuel)
	if stop > 0 && stop <= len(want.rounds) {
		want.text, want.err, want.rounds = "", api.ErrStopped, want.rounds[:stop]
	}
	got := watched(t, src, types, fuel, stop)
	var u *api.UnboundError
	switch {
	case want.stray != nil:
		if !errors.As(got.err, &u) || u.Name != want.stray.name || u.At != want.stray.at || len(got.rounds) > 0 {
			t.Fatalf("P5: Watch(%q) = %q, %v, want an *UnboundError of %s at %d", src, got.typ, got.err, want.stray.name, want.stray.at)
		}
		tried["stray"]++
	case got.typ != want.text || !errors.Is(got.err, want.err) || !slices.Equal(got.rounds, want.rounds):
		t.Fatalf("P5, P6: Watch(%q, %v, %d), stopped at %d: %q, %v, %q; want %q, %v, %q", src, types, fuel, stop, got.typ, got.err, got.rounds, want.text, want.err, want.rounds)
	default:
		tried[errorText(want.err)]++
	}
	for _, what := range []string{" 3: ", " 4: ", "_a", "_b"} {
		if want.err == nil && slices.ContainsFunc(want.rounds, func(line string) bool { return strings.Contains(line, what) }) {
			tried[what]++
		}
	}
	// Longer than the texts of three types that parts may have.
	if slices.ContainsFunc(want.rounds, func(line string) bool { return len(line) > 3*api.MaxSize*len("_a -> ") }) {
		tried["great"]++
	}
}

// allTried: has each of these been asked for often enough?
func allTried(t *testing.T, tried map[string]int, enough map[string]int) {
	t.Helper()
	for what, times := range enough {
		if tried[what] < times {
			t.Errorf("not all is tried: %q only %d times", what, tried[what])
		}
	}
}

// All groups of one name, and of two, that are small enough; within two outer names, so that none is stray.
func TestP5SmallGroups(t *testing.T) {
	a, b := shape{head: "a"}, shape{head: "b"}
	env := []given{whole("k", arrow(pair(a, b), pair(b, a)))}
	tried := map[string]int{}
	try := func(group *term, fuel int) {
		e := &term{kind: "fun", name: "y", below: []*term{group}}
		watchedPlainly(t, &term{kind: "fun", name: "x", below: []*term{e}}, env, fuel, 0, tried)
	}
	f, g := &term{kind: "name", name: "f"}, &term{kind: "name", name: "g"}
	for parts := 1; parts <= 6; parts++ {
		for _, e := range smallTerms(parts, words("f")) {
			try(&term{kind: "rec", group: words("f"), below: []*term{e, f}}, 5)
		}
	}
	for parts := 1; parts <= 4; parts++ {
		for _, one := range smallTerms(parts, words("f g k")) {
			for _, other := range smallTerms(5-parts, words("f g k")) {
				both := &term{kind: "pair", below: []*term{f, g}}
				try(&term{kind: "rec", group: words("f g"), below: []*term{one, other, both}}, 4)
			}
		}
	}
	allTried(t, tried, map[string]int{"": 20000, api.ErrType.Error(): 3000, api.ErrFuel.Error(): 2000, " 3: ": 2000, "_a": 3000, "_b": 200})
}

// Any groups, one within another as well, with any environment.
func TestP5MadeGroups(t *testing.T) {
	r := rand.New(rand.NewPCG(5, 6))
	tried := map[string]int{}
	for range 8000 {
		env := anyEnv(r)
		var known []string
		for _, n := range env {
			known = append(known, n.name)
		}
		// Two outer names, often used, so that much is found out about them.
		e := anyGroup(r, 1+r.IntN(24), append(known, words("p q p q p q")...), 4)
		e = &term{kind: "fun", name: "p", below: []*term{{kind: "fun", name: "q", below: []*term{e}}}}
		if text := e.write(""); len(text) > api.MaxText {
			continue
		}
		stop := 0
		if r.IntN(4) == 0 {
			stop = 1 + r.IntN(6)
		}
		watchedPlainly(t, e, env, 1+r.IntN(api.MaxFuel), stop, tried)
	}
	allTried(t, tried, map[string]int{"": 2000, "stray": 50, api.ErrType.Error(): 500, api.ErrBig.Error(): 50, api.ErrFuel.Error(): 500, api.ErrStopped.Error(): 500, " 3: ": 300, " 4: ": 50, "_a": 1000, "_b": 300})
}
