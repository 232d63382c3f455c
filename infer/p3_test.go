package infer_test

import (
	"errors"
	"maps"
	"strconv"
	"strings"
	"testing"

	"typer/api"
	"typer/infer"
)

// canon: Canon answers that text.
func canon(t *testing.T, typ, want string) {
	t.Helper()
	if got, err := infer.Canon(typ); got != want || err != nil {
		t.Errorf("P3: Canon(%q) = %q, %v, want %q", typ, got, err, want)
	}
}

// canonAt: Canon answers a *SyntaxError at that place, and the empty text; and Instance that error with the nil map, whichever of its texts it is.
func canonAt(t *testing.T, typ string, at int) {
	t.Helper()
	var s *api.SyntaxError
	if got, err := infer.Canon(typ); got != "" || !errors.As(err, &s) || s.At != at {
		t.Errorf("P3: Canon(%q) = %q, %v, want a *SyntaxError at %d", typ, got, err, at)
	}
	if m, err := infer.Instance(typ, "int"); m != nil || !errors.As(err, &s) || s.At != at {
		t.Errorf("P3: Instance(%q, int) = %v, %v, want a *SyntaxError at %d", typ, m, err, at)
	}
	if m, err := infer.Instance("a", typ); m != nil || !errors.As(err, &s) || s.At != at {
		t.Errorf("P3: Instance(a, %q) = %v, %v, want a *SyntaxError at %d", typ, m, err, at)
	}
}

// canonBy: likewise, of an error that says all by itself.
func canonBy(t *testing.T, typ string, want error) {
	t.Helper()
	if got, err := infer.Canon(typ); got != "" || !errors.Is(err, want) {
		t.Errorf("P3: Canon(%.60q) = %q, %v, want %v", typ, got, err, want)
	}
	if m, err := infer.Instance(typ, "int"); m != nil || !errors.Is(err, want) {
		t.Errorf("P3: Instance(%.60q, int) = %v, %v, want %v", typ, m, err, want)
	}
	if m, err := infer.Instance("a", typ); m != nil || !errors.Is(err, want) {
		t.Errorf("P3: Instance(a, %.60q) = %v, %v, want %v", typ, m, err, want)
	}
}

// instance: Instance answers that map: names and types, in turn.
func instance(t *testing.T, general, special string, pairs ...string) {
	t.Helper()
	want := map[string]api.Typed{}
	for k := 0; k < len(pairs); k += 2 {
		want[pairs[k]] = api.Typed{Type: pairs[k+1]}
	}
	if m, err := infer.Instance(general, special); m == nil || !maps.Equal(m, want) || err != nil {
		t.Errorf("P3: Instance(%q, %q) = %v, %v, want %v", general, special, m, err, want)
	}
}

// noInstance: Instance answers ErrNot, and the nil map.
func noInstance(t *testing.T, general, special string) {
	t.Helper()
	if m, err := infer.Instance(general, special); m != nil || !errors.Is(err, api.ErrNot) {
		t.Errorf("P3: Instance(%q, %q) = %v, %v, want ErrNot", general, special, m, err)
	}
}

func TestP3OneText(t *testing.T) {
	for _, c := range []struct{ typ, want string }{
		{"int", "int"},
		{"bool", "bool"},
		{"zz", "a"},
		{"[int]", "[int]"},
		{"[[bool]]", "[[bool]]"},
		{"(int,bool)", "(int, bool)"},
		{"int->bool", "int -> bool"},
		{"(q->p)->[q]", "(a -> b) -> [a]"},
		{"((a))", "a"},
		{"[(a)]", "[a]"},
		{"((a),((b)))", "(a, b)"},
		{"a->b->c", "a -> b -> c"},
		{"a->(b->c)", "a -> b -> c"},
		{"(a->b)->c", "(a -> b) -> c"},
		{"((a->b)->c)->d", "((a -> b) -> c) -> d"},
		{"(a->b)->(c->d)", "(a -> b) -> c -> d"},
		{"a->(b->c)->d", "a -> (b -> c) -> d"},
		{"(a)->(b)", "a -> b"},
		{"([a])->([b])", "[a] -> [b]"},
		{"((a,b))->((c,d))", "(a, b) -> (c, d)"},
		{"(a->b,c->d)", "(a -> b, c -> d)"},
		{"((a->b),((c->d)))", "(a -> b, c -> d)"},
		{"[a->b]", "[a -> b]"},
		{"[(a->b)]->c", "[a -> b] -> c"},
		{"[(a,b)]", "[(a, b)]"},
		{"((a,b),(c,d))", "((a, b), (c, d))"},
	} {
		canon(t, c.typ, c.want)
		canon(t, c.want, c.want)
	}
}

func TestP3Variables(t *testing.T) {
	canon(t, "x -> y -> x -> z -> y", "a -> b -> a -> c -> b")
	canon(t, "(b, a) -> (a, b)", "(a, b) -> (b, a)")
	canon(t, "(b -> a) -> [b]", "(a -> b) -> [a]")
	canon(t, "(z, z)", "(a, a)")
	canon(t, "a1 -> a -> a1", "a -> b -> a")
	canon(t, "abcdefgh -> abcdefg -> abcdefgh", "a -> b -> a")
	// int and bool take no letter.
	canon(t, "int -> y -> bool -> x", "int -> a -> bool -> b")
	// Sixty variables are as many as a type may have.
	for n := 1; 2*n-1 <= api.MaxSize; n++ {
		var own, want []string
		for k := range n {
			own = append(own, "v"+strconv.Itoa(k))
			letter := string("abcdefghijklmnopqrstuvwxyz"[k%26])
			want = append(want, letter+[]string{"", "1", "2"}[k/26])
		}
		canon(t, strings.Join(own, "->"), strings.Join(want, " -> "))
		canon(t, strings.Join(want, "->"), strings.Join(want, " -> "))
	}
}

func TestP3Words(t *testing.T) {
	for _, word := range words("fun let rec and in if then else") {
		canon(t, word, "a")
		canon(t, "["+word+"] -> x -> "+word, "[a] -> b -> a")
		instance(t, word, "int", word, "int")
		instance(t, "x", word, "x", word)
		canonAt(t, word+" "+word, len(word)+1)
	}
	for _, word := range words("ints bools int1 bool0 i in bo boolean") {
		canon(t, word, "a")
		instance(t, word+" -> int -> bool", "bool -> int -> bool", word, "bool")
	}
	noInstance(t, "int", "bool")
	noInstance(t, "int", "ints")
	for _, number := range []string{"0", "1", "12345678", "1a"} {
		canonAt(t, number, 0)
		canonAt(t, "a -> "+number, 5)
		canonAt(t, "["+number+"]", 1)
		canonAt(t, "(a, "+number+")", 4)
		canonAt(t, "a "+number, 2)
	}
}

func TestP3Names(t *testing.T) {
	name := "a" + strings.Repeat("1", api.MaxName-1)
	canon(t, name, "a")
	instance(t, name, "["+name+"]", name, "["+name+"]")
	canonAt(t, name+"1", 0)
	canonAt(t, name+"a", 0)
	canonAt(t, "a -> "+name+"1", 5)
	canonAt(t, "["+name+"1]", 1)
	canonAt(t, strings.Repeat("1", api.MaxName+1), 0)
}

func TestP3Blanks(t *testing.T) {
	for _, blank := range []string{"", " ", "\n", "  ", "\n \n"} {
		typ := blank + strings.Join(words("( x -> int ) -> [ ( y , x ) ] -> bool"), blank) + blank
		canon(t, typ, "(a -> int) -> [(b, a)] -> bool")
		instance(t, typ, "(q -> int) -> [([q], q)] -> bool", "x", "q", "y", "[q]")
		instance(t, "q", typ, "q", "(x -> int) -> [(y, x)] -> bool")
	}
	for _, none := range []string{"\t", "\r", "\v", "\f", "\x00", "\u00a0", "\xff"} {
		canonAt(t, none+"x", 0)
		canonAt(t, "x -> "+none+" y", 5)
		canonAt(t, "x"+none, 1)
	}
	canonAt(t, "x - > y", 2)
	canonAt(t, "in t", 3)
}

func TestP3Long(t *testing.T) {
	canon(t, "x"+strings.Repeat(" ", api.MaxText-1), "a")
	canon(t, strings.Repeat("\n", api.MaxText-1)+"x", "a")
	// Brackets about a type add nothing to its size.
	half := (api.MaxText - 2) / 2
	canon(t, strings.Repeat("(", half)+"xy"+strings.Repeat(")", half), "a")
	canonAt(t, strings.Repeat(" ", api.MaxText), api.MaxText)
	canonAt(t, strings.Repeat("(", api.MaxText), api.MaxText)
	canonAt(t, strings.Repeat("[", api.MaxText), api.MaxText)
	for _, typ := range []string{"x", ")", "x x "} {
		canonBy(t, typ+strings.Repeat(" ", api.MaxText+1-len(typ)), api.ErrLong)
	}
	canonBy(t, strings.Repeat("[", api.MaxText+1), api.ErrLong)
	canonBy(t, strings.Repeat("x -> ", 100000), api.ErrLong)
}

// lists: the type within that many lists.
func lists(n int, of string) string { return strings.Repeat("[", n) + of + strings.Repeat("]", n) }

func TestP3Big(t *testing.T) {
	// Each with what is of size below in place of @.
	for _, c := range []struct {
		around string
		below  int
	}{
		{"@", 0}, {"(@)", 0}, {"[@]", 1},
		{"@ -> a", 2}, {"a -> @", 2}, {"(@, a)", 2}, {"(a, @)", 2},
		{"([a], (a, a -> a)) -> @", 9}, {"@ -> a -> a -> a", 6}, {"(@ -> a) -> a", 4},
	} {
		of := func(size int) string { return strings.Replace(c.around, "@", lists(size-c.below-1, "a"), 1) }
		typ := of(api.MaxSize)
		if text, err := infer.Canon(typ); text == "" || err != nil {
			t.Errorf("P3: Canon(%q) = %q, %v, want no error", typ, text, err)
		}
		canonBy(t, of(api.MaxSize+1), api.ErrBig)
		canonBy(t, of(api.MaxSize+2), api.ErrBig)
	}
	canonBy(t, strings.Repeat("a->", api.MaxSize/2)+"int", api.ErrBig)
	// What is wrong in the text comes first.
	canonAt(t, lists(api.MaxSize, "a")+")", 2*api.MaxSize+1)
	canonAt(t, lists(api.MaxSize, "a")+"->", 2*api.MaxSize+3)
	// What stands for a variable is as big as it is; only the texts that are handed in are asked for their size.
	instance(t, "a", lists(api.MaxSize-1, "b"), "a", lists(api.MaxSize-1, "b"))
	instance(t, lists(api.MaxSize-1, "a"), lists(api.MaxSize-1, "int"), "a", "int")
}

func TestP3WrongPlace(t *testing.T) {
	for _, c := range []struct {
		typ string
		at  int
	}{
		{"[]", 1}, {"1", 0}, {"a ->", 4}, {"()", 1}, {"(a, b, c)", 5}, {"(,a)", 1}, {"(a,)", 3}, {"a)", 1}, {"a]", 1}, {"a,b", 1},
		{"[a)", 2}, {"(a]", 2}, {"[a, b]", 2}, {"(a, b]", 5}, {"a b", 2}, {"int int", 4}, {"[a] b", 4}, {"a [b]", 2}, {"a (b)", 2},
		{"-> a", 0}, {"a -> -> b", 5}, {"a -> b ->", 9}, {"(a ->) b", 5}, {"[a ->]", 5}, {"(-> a)", 1},
		{"a = b", 2}, {"= a", 0}, {"a - b", 2}, {"a > b", 2}, {"a -", 2}, {"A", 0}, {"aB", 1}, {"_a", 0}, {"é", 0}, {"'a", 0},
		{") #", 0}, {"# )", 0}, {"a ) abcdefghi", 2}, {"abcdefghi", 0}, {"fun x -> x", 4}, {"let x = x", 4},
	} {
		canonAt(t, c.typ, c.at)
	}
}

func TestP3EndsTooSoon(t *testing.T) {
	canonAt(t, "", 0)
	canonAt(t, " \n ", 3)
	// From each of these no token but the last can be left out behind.
	for _, typ := range []string{"( a )", "[ a ]", "( a , [ b ] )", "( a -> int , bool )", "[ ( a -> b ) -> c ]"} {
		tokens := words(typ)
		for n := range tokens {
			short := strings.Join(tokens[:n], " ")
			canonAt(t, short, len(short))
			canonAt(t, short+" \n", len(short)+2)
		}
	}
	canonAt(t, "a ->\n ", 6)
	canonAt(t, "a -> b -> ", 10)
}

func TestP3Instance(t *testing.T) {
	instance(t, "a -> b -> [a]", "(x, y) -> int -> [(x, y)]", "a", "(x, y)", "b", "int")
	instance(t, "int", "int")
	instance(t, "(int, [bool]) -> int", "((int),[(bool)])->(int)")
	instance(t, "a", "a", "a", "a")
	instance(t, "q", "(x -> y) -> x", "q", "(x -> y) -> x")
	instance(t, "q", "x -> (y -> z)", "q", "x -> y -> z")
	instance(t, "a -> b", "q -> q", "a", "q", "b", "q")
	instance(t, "a -> b", "b -> a", "a", "b", "b", "a")
	instance(t, "a -> b -> a", "[b] -> [a] -> [b]", "a", "[b]", "b", "[a]")
	instance(t, "a -> b", "x -> y -> z", "a", "x", "b", "y -> z")
	instance(t, "(a -> b) -> c", "(x -> y -> z) -> x", "a", "x", "b", "y -> z", "c", "x")
	instance(t, "[a]", "[[b]]", "a", "[b]")
	instance(t, "(a, a)", "((x->y) , (((x) -> (y))))", "a", "x -> y")
	instance(t, "a -> a", "int -> int", "a", "int")
	// A variable that stands within what it stands for is another one: the two texts have their own.
	instance(t, "a -> b", "[a] -> (a, b)", "a", "[a]", "b", "(a, b)")

	noInstance(t, "a -> a", "int -> bool")
	noInstance(t, "a -> a", "b -> c")
	noInstance(t, "a -> a", "a -> [a]")
	noInstance(t, "(a, a)", "((x, y), (y, x))")
	noInstance(t, "(a, a)", "(x -> y, x -> x)")
	noInstance(t, "(a, (b, a))", "(x, (x, y))")
	noInstance(t, "int", "a")
	noInstance(t, "a -> int", "int -> a")
	noInstance(t, "(int, a)", "(b, int)")
	// No two ways to make a type are the same.
	ways := []string{"int", "bool", "[a]", "(a, b)", "a -> b"}
	for _, general := range ways {
		for _, special := range append(ways, "v") {
			if general != special {
				noInstance(t, general, special)
				noInstance(t, "["+general+"]", "["+special+"]")
			}
		}
	}
	noInstance(t, "a -> b -> c", "(x -> y) -> z")
	noInstance(t, "[a]", "a")
}

func TestP3InstanceTellsFirst(t *testing.T) {
	long, big, wrong := strings.Repeat(" ", api.MaxText+1), lists(api.MaxSize, "a"), "a )"
	// The error of general comes first, whichever the two are.
	var s *api.SyntaxError
	for _, special := range []string{long, big, ")", "int", "a"} {
		if m, err := infer.Instance(long, special); m != nil || !errors.Is(err, api.ErrLong) {
			t.Errorf("P3: Instance(long, %.20q) = %v, %v", special, m, err)
		}
		if m, err := infer.Instance(big, special); m != nil || !errors.Is(err, api.ErrBig) {
			t.Errorf("P3: Instance(big, %.20q) = %v, %v", special, m, err)
		}
		if m, err := infer.Instance(wrong, special); m != nil || !errors.As(err, &s) || s.At != 2 {
			t.Errorf("P3: Instance(wrong, %.20q) = %v, %v", special, m, err)
		}
	}
	// That of special comes ahead of ErrNot, even if it would be plain from what stands ahead.
	for _, general := range []string{"int", "a", "a -> a"} {
		if m, err := infer.Instance(general, "bool -> int )"); m != nil || !errors.As(err, &s) || s.At != 12 {
			t.Errorf("P3: Instance(%q, wrong) = %v, %v", general, m, err)
		}
		if m, err := infer.Instance(general, big); m != nil || !errors.Is(err, api.ErrBig) {
			t.Errorf("P3: Instance(%q, big) = %v, %v", general, m, err)
		}
		if m, err := infer.Instance(general, long); m != nil || !errors.Is(err, api.ErrLong) {
			t.Errorf("P3: Instance(%q, long) = %v, %v", general, m, err)
		}
	}
}

func TestP3TheMapIsTheCallers(t *testing.T) {
	first, err := infer.Instance("a -> b", "int -> bool")
	if err != nil {
		t.Fatal(err)
	}
	second, _ := infer.Instance("a -> b", "int -> bool")
	first["a"] = api.Typed{Type: "mine"}
	first["c"] = api.Typed{}
	delete(first, "b")
	if want := map[string]api.Typed{"a": {Type: "int"}, "b": {Type: "bool"}}; !maps.Equal(second, want) {
		t.Errorf("P3: the map has changed with another: %v", second)
	}
	instance(t, "a -> b", "int -> bool", "a", "int", "b", "bool")
	// An empty map can be written to as well.
	empty, _ := infer.Instance("int", "int")
	empty["x"] = api.Typed{}
	instance(t, "int", "int")
}
