package infer_test

import (
	"errors"
	"math/rand/v2"
	"strconv"
	"testing"

	"typer/api"
	"typer/infer"
)

// term: an expression that a test has made: "fun", "if", "let", "rec", "apply" or "pair", with those right below it and the name, or the group of names, that it gives; or a lone name or number, and where it stands in the text.
type term struct {
	kind  string
	name  string
	group []string
	below []*term
	at    int
}

// write: the expression's text behind the one that stands there; each name keeps its place.
func (e *term) write(text string) string {
	switch e.kind {
	case "fun":
		return e.below[0].write(text + "fun " + e.name + " -> ")
	case "if":
		text = e.below[0].write(text + "if ")
		text = e.below[1].write(text + " then ")
		return e.below[2].write(text + " else ")
	case "let":
		text = e.below[0].write(text + "let " + e.name + " = ")
		return e.below[1].write(text + " in ")
	case "rec":
		text += "let rec "
		for k, name := range e.group {
			text = e.below[k].write(text+name+" = ") + []string{" and ", " in "}[(k+1)/len(e.group)]
		}
		return e.below[len(e.group)].write(text)
	case "apply":
		return e.below[1].atom(e.below[0].atom(text) + " ")
	case "pair":
		text = e.below[0].write(text + "(")
		return e.below[1].write(text+", ") + ")"
	}
	e.at = len(text)
	return text + e.name
}

func (e *term) atom(text string) string {
	switch e.kind {
	case "name", "number", "pair":
		return e.write(text)
	}
	return e.write(text+"(") + ")"
}

// given: a name, its type, and those of the type's variables that stand for any type.
type given struct {
	name string
	typ  shape
	any  map[string]bool
}

// plainly types expressions in the plainest way there is: each time it works out all that has been found out, in all types, anew.
type plainly struct {
	found  map[string]shape
	fresh  int
	fuel   int
	rounds []string // what is to be told, a line a round
}

func (p *plainly) variable() shape {
	p.fresh++
	return shape{head: "v" + strconv.Itoa(p.fresh)}
}

// now: a type, with all that has been found out.
func (p *plainly) now(s shape) shape {
	return s.with(func(name string) shape {
		if is, known := p.found[name]; known {
			return p.now(is)
		}
		return shape{head: name}
	})
}

func (p *plainly) equal(a, b shape) {
	a, b = p.now(a), p.now(b)
	switch {
	case a.isVar() && b.isVar() && a.head == b.head:
	case a.isVar():
		for _, part := range b.parts() {
			if part.isVar() && part.head == a.head {
				panic(api.ErrType)
			}
		}
		p.found[a.head] = b
	case b.isVar():
		p.equal(b, a)
	case a.head != b.head:
		panic(api.ErrType)
	default:
		for k := range a.below {
			p.equal(a.below[k], b.below[k])
		}
	}
}

func (p *plainly) typ(e *term, names []given) shape {
	s := p.now(p.find(e, names))
	if s.size() > api.MaxSize {
		panic(api.ErrBig)
	}
	return s
}

func arrow(from, to shape) shape { return shape{head: "->", below: []shape{from, to}} }

func (p *plainly) find(e *term, names []given) shape {
	switch e.kind {
	case "fun":
		x := p.variable()
		return arrow(x, p.typ(e.below[0], append(names[:len(names):len(names)], given{e.name, x, nil})))
	case "if":
		p.equal(p.typ(e.below[0], names), shape{head: "bool"})
		yes := p.typ(e.below[1], names)
		p.equal(yes, p.typ(e.below[2], names))
		return yes
	case "let":
		s := p.typ(e.below[0], names)
		return p.typ(e.below[1], append(names[:len(names):len(names)], given{e.name, s, p.any(s, names)}))
	case "rec":
		return p.typ(e.below[len(e.group)], append(names[:len(names):len(names)], p.group(e, names)...))
	case "apply":
		f := p.typ(e.below[0], names)
		a := p.typ(e.below[1], names)
		out := p.variable()
		p.equal(f, arrow(a, out))
		return out
	case "pair":
		left := p.typ(e.below[0], names)
		return shape{head: ",", below: []shape{left, p.typ(e.below[1], names)}}
	case "number":
		return shape{head: "int"}
	}
	return p.instance(e.name, names)
}

// any: the variables that are free in no type of a name that stands for something. One that is hidden stands for nothing.
func (p *plainly) any(s shape, names []given) map[string]bool {
	any := map[string]bool{}
	for _, part := range p.now(s).parts() {
		if part.isVar() {
			any[part.head] = true
		}
	}
	hidden := map[string]bool{}
	for k := len(names) - 1; k >= 0; k-- {
		n := names[k]
		if hidden[n.name] {
			continue
		}
		hidden[n.name] = true
		for _, part := range n.typ.parts() {
			if !part.isVar() || n.any[part.head] {
				continue
			}
			for _, v := range p.now(part).parts() {
				delete(any, v.head)
			}
		}
	}
	return any
}

func (p *plainly) instance(name string, names []given) shape {
	for k := len(names) - 1; k >= 0; k-- {
		if names[k].name != name {
			continue
		}
		is := map[string]shape{}
		return names[k].typ.with(func(name string) shape {
			if !names[k].any[name] {
				return shape{head: name}
			}
			if _, known := is[name]; !known {
				is[name] = p.variable()
			}
			return is[name]
		})
	}
	panic("no name")
}

// lone: the first name that stands for nothing.
func lone(e *term, known []string) *term {
	switch e.kind {
	case "number":
		return nil
	case "name":
		for _, k := range known {
			if k == e.name {
				return nil
			}
		}
		return e
	}
	for k, b := range e.below {
		in := known
		if e.kind == "fun" || e.kind == "let" && k == 1 {
			in = append(known[:len(known):len(known)], e.name)
		}
		if e.kind == "rec" {
			in = append(known[:len(known):len(known)], e.group...)
		}
		if l := lone(b, in); l != nil {
			return l
		}
	}
	return nil
}

// plain: what Watch should answer, and tell: the type, or the error, or the name that stands for nothing; and the rounds.
type plain struct {
	text   string
	err    error
	stray  *term
	rounds []string
}

func plainType(e *term, env []given, fuel int) (is plain) {
	var known []string
	for _, n := range env {
		known = append(known, n.name)
	}
	if stray := lone(e, known); stray != nil {
		return plain{stray: stray}
	}
	p := &plainly{found: map[string]shape{}, fuel: fuel}
	defer func() {
		is.rounds = p.rounds
		if r := recover(); r != nil {
			is.err = r.(error)
		}
	}()
	is.text = p.typ(e, env).canonical().text()
	return is
}

// typesOf: the environment, as it is handed in.
func typesOf(env []given) map[string]api.Typed {
	types := map[string]api.Typed{}
	for _, n := range env {
		types[n.name] = api.Typed{Type: n.typ.text()}
	}
	return types
}

// asPlainly: does Infer answer what it should? It says what that is: a type, an error, or a stray name.
func asPlainly(t *testing.T, e *term, env []given) string {
	t.Helper()
	src, types := e.write(""), typesOf(env)
	want := plainType(e, env, 1)
	typ, err := infer.Infer(src, types, 1)
	var u *api.UnboundError
	switch {
	case want.stray != nil:
		if typ != "" || !errors.As(err, &u) || u.Name != want.stray.name || u.At != want.stray.at {
			t.Fatalf("P4: Infer(%q) = %q, %v, want an *UnboundError of %s at %d", src, typ, err, want.stray.name, want.stray.at)
		}
		return "stray"
	case typ != want.text || !errors.Is(err, want.err):
		t.Fatalf("P4: Infer(%q) with %v = %q, %v, want %q, %v", src, types, typ, err, want.text, want.err)
	case want.err != nil:
		return want.err.Error()
	}
	return "type"
}

// whole: a name of an environment, all of whose type's variables stand for any type.
func whole(name string, typ shape) given {
	any := map[string]bool{}
	for _, part := range typ.parts() {
		if part.isVar() {
			any[part.head] = true
		}
	}
	return given{name, typ, any}
}

func list(of shape) shape { return shape{head: "[", below: []shape{of}} }

func pair(left, right shape) shape { return shape{head: ",", below: []shape{left, right}} }

// smallTerms: all expressions of so many parts, of the names x, y and those.
func smallTerms(parts int, more []string) []*term {
	var out []*term
	if parts == 1 {
		for _, name := range append(words("x y"), more...) {
			out = append(out, &term{kind: "name", name: name})
		}
		return append(out, &term{kind: "number", name: "1"})
	}
	for _, a := range smallTerms(parts-1, more) {
		out = append(out, &term{kind: "fun", name: "x", below: []*term{a}}, &term{kind: "fun", name: "y", below: []*term{a}})
	}
	for n := 1; n < parts-1; n++ {
		for _, a := range smallTerms(n, more) {
			for _, b := range smallTerms(parts-1-n, more) {
				below := []*term{a, b}
				out = append(out, &term{kind: "apply", below: below}, &term{kind: "pair", below: below}, &term{kind: "let", name: "x", below: below}, &term{kind: "let", name: "y", below: below})
			}
		}
	}
	return out
}

func TestP4SmallExpressions(t *testing.T) {
	a, b := shape{head: "a"}, shape{head: "b"}
	env := []given{whole("f", arrow(pair(a, b), pair(b, a)))}
	seen := map[string]int{}
	for parts := 1; parts <= 5; parts++ {
		for _, e := range smallTerms(parts, words("f")) {
			seen[asPlainly(t, e, env)]++
		}
	}
	// Below two names, so that few are stray.
	for parts := 1; parts <= 6; parts++ {
		for _, e := range smallTerms(parts, nil) {
			e = &term{kind: "fun", name: "x", below: []*term{{kind: "fun", name: "y", below: []*term{e}}}}
			seen[asPlainly(t, e, nil)]++
		}
	}
	if seen["type"] < 1000 || seen[api.ErrType.Error()] < 1000 || seen["stray"] < 1000 {
		t.Errorf("not all is tried: %v", seen)
	}
}

// anyTerm makes an expression of some parts, mostly of names that stand for something. recs: how many let recs there are for each twenty others.
func anyTerm(r *rand.Rand, parts int, known []string, recs int) *term {
	if parts <= 1 {
		if r.IntN(8) == 0 {
			return &term{kind: "number", name: strconv.Itoa(r.IntN(20))}
		}
		if r.IntN(300) == 0 {
			return &term{kind: "name", name: "stray"}
		}
		// The inner names more often.
		k := max(r.IntN(len(known)), r.IntN(len(known)))
		return &term{kind: "name", name: known[k]}
	}
	name := string("xyzwn"[r.IntN(5)])
	in := append(known[:len(known):len(known)], name)
	left := 1 + r.IntN(max(1, parts-2))
	right := max(1, parts-1-left)
	switch kind := r.IntN(20 + recs); {
	case kind < 4 || parts == 2:
		return &term{kind: "fun", name: name, below: []*term{anyTerm(r, parts-1, in, recs)}}
	case kind < 9:
		return &term{kind: "let", name: name, below: []*term{anyTerm(r, left, known, recs), anyTerm(r, right, in, recs)}}
	case kind < 12:
		return &term{kind: "pair", below: []*term{anyTerm(r, left, known, recs), anyTerm(r, right, known, recs)}}
	case kind < 13:
		return &term{kind: "if", below: []*term{anyTerm(r, 1+r.IntN(2), known, recs), anyTerm(r, left, known, recs), anyTerm(r, right, known, recs)}}
	case kind >= 20:
		return anyGroup(r, parts, known, recs)
	}
	return &term{kind: "apply", below: []*term{anyTerm(r, min(left, 1+r.IntN(5)), known, recs), anyTerm(r, right, known, recs)}}
}

// anyGroup makes a let rec of one to four names.
func anyGroup(r *rand.Rand, parts int, known []string, recs int) *term {
	e := &term{kind: "rec"}
	for _, k := range r.Perm(5)[:1+r.IntN(4)] {
		e.group = append(e.group, string("xyzwn"[k]))
	}
	in := append(known[:len(known):len(known)], e.group...)
	for range e.group {
		e.below = append(e.below, anyTerm(r, 1+r.IntN(max(1, parts/len(e.group))), in, recs))
	}
	e.below = append(e.below, anyTerm(r, 1+r.IntN(4), in, recs))
	return e
}

// anyEnv makes an environment of some names that hold for all, and some of any type.
func anyEnv(r *rand.Rand) []given {
	a, b := shape{head: "a"}, shape{head: "b"}
	env := []given{
		whole("true", shape{head: "bool"}), whole("nil", list(a)), whole("cons", arrow(a, arrow(list(a), list(a)))),
		whole("fst", arrow(pair(a, b), a)), whole("eq", arrow(a, arrow(a, shape{head: "bool"}))), whole("dup", arrow(a, pair(a, a))), whole("same", arrow(a, arrow(a, a))),
	}
	for k := range 2 {
		env = append(env, whole("some"+strconv.Itoa(k), anyShape(r, 1+r.IntN(4), words("a b c"))))
	}
	s := shape{head: "a"}
	for range r.IntN(6) {
		s = pair(s, s)
	}
	return append(env, whole("large", s), whole("grow", arrow(a, s)))
}

func TestP4MadeExpressions(t *testing.T) {
	r := rand.New(rand.NewPCG(4, 4))
	seen := map[string]int{}
	for range 25000 {
		env := anyEnv(r)
		var known []string
		for _, n := range env {
			known = append(known, n.name)
		}
		e := anyTerm(r, 1+r.IntN(16), known, 0)
		if text := e.write(""); len(text) <= api.MaxText {
			seen[asPlainly(t, e, env)]++
		}
	}
	if seen["type"] < 5000 || seen[api.ErrType.Error()] < 5000 || seen[api.ErrBig.Error()] < 300 || seen["stray"] < 100 {
		t.Errorf("not all is tried: %v", seen)
	}
}
