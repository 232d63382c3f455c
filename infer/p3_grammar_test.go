package infer_test

import (
	"errors"
	"maps"
	"math/rand/v2"
	"slices"
	"strings"
	"testing"

	"typer/api"
	"typer/infer"
)

// typeRules: the document's grammar of types, word for word.
func typeRules(of string) [][]string {
	switch of {
	case "type":
		return [][]string{{"one"}, {"one", "->", "type"}}
	case "one":
		return [][]string{{"int"}, {"bool"}, {"name"}, {"[", "type", "]"}, {"(", "type", ")"}, {"(", "type", ",", "type", ")"}}
	}
	return nil
}

func TestP3Grammar(t *testing.T) {
	g := grammar{
		promise: "P3",
		ask:     infer.Canon,
		rules:   typeRules,
		kinds:   words("int bool name number -> = ( ) , [ ]"),
	}
	g.walkFrom(t, "type", 5, []string{"", "( int , bool", "[ name -> name", "( ( name , [ int ] ) -> ["})
}

// shape: a type that a test has made: "int", "bool", "[", "," or "->", with those right below it; anything else is a variable's name.
type shape struct {
	head  string
	below []shape
}

func (s shape) isVar() bool { return len(s.below) == 0 && s.head != "int" && s.head != "bool" }

func (s shape) size() int {
	n := 1
	for _, b := range s.below {
		n += b.size()
	}
	return n
}

// parts: the type, and all that stand within it, in order.
func (s shape) parts() []shape {
	out := []shape{s}
	for _, b := range s.below {
		out = append(out, b.parts()...)
	}
	return out
}

// with: the type, with others for its variables.
func (s shape) with(is func(name string) shape) shape {
	if s.isVar() {
		return is(s.head)
	}
	out := shape{head: s.head}
	for _, b := range s.below {
		out.below = append(out.below, b.with(is))
	}
	return out
}

// tokens: those of the type's text, with some brackets that add nothing about each part.
func (s shape) tokens(some func() int) []string {
	switch s.head {
	case "[":
		return bracketed(cat(words("["), s.below[0].tokens(some), words("]")), some())
	case ",":
		return bracketed(cat(words("("), s.below[0].tokens(some), words(","), s.below[1].tokens(some), words(")")), some())
	case "->":
		from := s.below[0].tokens(some)
		if s.below[0].head == "->" {
			from = bracketed(from, 1)
		}
		return bracketed(cat(from, words("->"), s.below[1].tokens(some)), some())
	}
	return bracketed(words(s.head), some())
}

// text: as the one text is, but with the type's own names.
func (s shape) text() string {
	text := ""
	for _, token := range s.tokens(func() int { return 0 }) {
		switch token {
		case "->":
			token = " -> "
		case ",":
			token = ", "
		}
		text += token
	}
	return text
}

// canonical: the type, with the document's names for its variables.
func (s shape) canonical() shape {
	names := "abcdefghijklmnopqrstuvwxyz"
	var seen []string
	return s.with(func(name string) shape {
		if !slices.Contains(seen, name) {
			seen = append(seen, name)
		}
		n := slices.Index(seen, name)
		return shape{head: string(names[n%26]) + []string{"", "1", "2"}[n/26]}
	})
}

// anyShape makes a type of any kind, not much deeper than room, of variables of those names.
func anyShape(r *rand.Rand, room int, names []string) shape {
	if room <= 1 || r.IntN(6) == 0 {
		switch k := r.IntN(6); k {
		case 0, 1:
			return shape{head: []string{"int", "bool"}[k]}
		}
		return shape{head: names[r.IntN(len(names))]}
	}
	one := func() shape { return anyShape(r, room-1, names) }
	switch r.IntN(5) {
	case 0:
		return shape{"[", []shape{one()}}
	case 1, 2:
		return shape{",", []shape{one(), one()}}
	}
	return shape{"->", []shape{one(), one()}}
}

// someNames: names for variables, those that are keywords of expressions among them.
func someNames(r *rand.Rand) []string {
	names := words("a b c z a1 z1 abcdefgh n0 let fun in rec ints bool0")
	if r.IntN(4) == 0 {
		for k := range 70 {
			names = append(names, "v"+string(rune('a'+k%26))+string(rune('0'+k/26)))
		}
	}
	r.Shuffle(len(names), func(i, j int) { names[i], names[j] = names[j], names[i] })
	if r.IntN(2) == 0 {
		return names[:1+r.IntN(5)]
	}
	return names
}

func TestP3MadeTypes(t *testing.T) {
	r := rand.New(rand.NewPCG(3, 4))
	long, big, plain := 0, 0, 0
	for range 6000 {
		s := anyShape(r, 1+r.IntN(7), someNames(r))
		typ := spread(r, s.tokens(func() int { return max(0, r.IntN(8)-6) }))
		if r.IntN(4) == 0 {
			for range 90 + r.IntN(40) {
				s = shape{"[", []shape{s}}
			}
			typ = strings.Join(s.tokens(func() int { return 0 }), "")
		}
		switch {
		case len(typ) > api.MaxText:
			long++
			canonBy(t, typ, api.ErrLong)
		case s.size() > api.MaxSize:
			big++
			canonBy(t, typ, api.ErrBig)
		default:
			plain++
			canon(t, typ, s.canonical().text())
			instance(t, "x", typ, "x", s.text())
		}
	}
	if long < 100 || big < 100 || plain < 1000 {
		t.Errorf("too few of a kind were made: %d too long, %d too big, %d others", long, big, plain)
	}
}

// typedBy: a map, as Instance hands it out.
func typedBy(is map[string]shape) map[string]api.Typed {
	out := map[string]api.Typed{}
	for name, s := range is {
		out[name] = api.Typed{Type: s.text()}
	}
	return out
}

// One type comes of another by types that were chosen ahead: Instance finds just these.
func TestP3MadeInstances(t *testing.T) {
	r := rand.New(rand.NewPCG(5, 6))
	found := 0
	for range 6000 {
		general := anyShape(r, 1+r.IntN(5), someNames(r))
		own, chosen := someNames(r), map[string]shape{}
		special := general.with(func(name string) shape {
			if _, known := chosen[name]; !known {
				chosen[name] = anyShape(r, 1+r.IntN(3), own)
			}
			return chosen[name]
		})
		g, s := spread(r, general.tokens(func() int { return 0 })), spread(r, special.tokens(func() int { return 0 }))
		if max(len(g), len(s)) > api.MaxText || max(general.size(), special.size()) > api.MaxSize {
			continue
		}
		found++
		if m, err := infer.Instance(g, s); m == nil || err != nil || !maps.Equal(m, typedBy(chosen)) {
			t.Fatalf("P3: Instance(%q, %q) = %v, %v, want %v", g, s, m, err, typedBy(chosen))
		}
	}
	if found < 1000 {
		t.Errorf("too few were made: %d", found)
	}
}

// smallShapes: all types of that size, of int, x and y.
func smallShapes(size int) []shape {
	if size == 1 {
		return []shape{{head: "int"}, {head: "x"}, {head: "y"}}
	}
	var out []shape
	for _, of := range smallShapes(size - 1) {
		out = append(out, shape{"[", []shape{of}})
	}
	for left := 1; left < size-1; left++ {
		for _, a := range smallShapes(left) {
			for _, b := range smallShapes(size - 1 - left) {
				out = append(out, shape{",", []shape{a, b}}, shape{"->", []shape{a, b}})
			}
		}
	}
	return out
}

// tried: by which types that stand in special, tried one by one, x and y make special of general; nil: by none.
func tried(general, special shape) map[string]shape {
	var has []string
	for _, p := range general.parts() {
		if p.isVar() {
			has = append(has, p.head)
		}
	}
	for _, x := range special.parts() {
		for _, y := range special.parts() {
			is := map[string]shape{"x": x, "y": y}
			if general.with(func(name string) shape { return is[name] }).text() == special.text() {
				maps.DeleteFunc(is, func(name string, _ shape) bool { return !slices.Contains(has, name) })
				return is
			}
		}
	}
	return nil
}

func TestP3SmallInstances(t *testing.T) {
	all := slices.Concat(smallShapes(1), smallShapes(2), smallShapes(3), smallShapes(4))
	yes, no := 0, 0
	for _, general := range all {
		for _, special := range all {
			m, err := infer.Instance(general.text(), special.text())
			want := tried(general, special)
			if want == nil {
				no++
				if m != nil || !errors.Is(err, api.ErrNot) {
					t.Fatalf("P3: Instance(%q, %q) = %v, %v, want ErrNot", general.text(), special.text(), m, err)
				}
				continue
			}
			yes++
			if m == nil || err != nil || !maps.Equal(m, typedBy(want)) {
				t.Fatalf("P3: Instance(%q, %q) = %v, %v, want %v", general.text(), special.text(), m, err, typedBy(want))
			}
		}
	}
	if yes < 300 || no < 300 {
		t.Errorf("too few of a kind: %d instances, %d others", yes, no)
	}
}
