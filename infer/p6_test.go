package infer_test

import (
	"errors"
	"maps"
	"slices"
	"strconv"
	"strings"
	"testing"

	"typer/api"
	"typer/infer"
)

// seen: what a watcher has been told, a line a round, and what was answered.
type seen struct {
	rounds []string
	typ    string
	err    error
}

// watched: Watch, stopped at that round (0: never), by a watcher that spoils what it is told. Whatever is watched: env stays as it was, no text stands beside an error, and Infer answers the same, as does Watch if nobody watches.
func watched(t *testing.T, src string, env map[string]api.Typed, fuel, stop int) seen {
	t.Helper()
	was := maps.Clone(env)
	var s seen
	s.typ, s.err = infer.Watch(src, env, fuel, func(names []string, round int, schemes []string) bool {
		if len(names) != len(schemes) {
			t.Errorf("P6: Watch(%q): %q have the schemes %q", src, names, schemes)
		}
		s.rounds = append(s.rounds, strings.Join(names, " ")+" "+strconv.Itoa(round)+": "+strings.Join(schemes, ", "))
		spoiled(names)
		spoiled(schemes)
		return len(s.rounds) != stop
	})
	if !maps.Equal(env, was) {
		t.Errorf("P6: Watch(%q) has changed the map to %v", src, env)
	}
	if s.err != nil && s.typ != "" {
		t.Errorf("P6: Watch(%q) = %q beside %v", src, s.typ, s.err)
	}
	if stopped := stop > 0 && len(s.rounds) >= stop; stopped {
		if !errors.Is(s.err, api.ErrStopped) || len(s.rounds) != stop {
			t.Errorf("P6: Watch(%q), stopped at %d: %.300q, %v", src, stop, s.rounds, s.err)
		}
		return s
	}
	for _, again := range []func() (string, error){
		func() (string, error) { return infers(t, src, env, fuel) },
		func() (string, error) { return infer.Watch(src, env, fuel, nil) },
	} {
		if typ, err := again(); typ != s.typ || errorText(err) != errorText(s.err) {
			t.Errorf("P6: Watch(%q) = %q, %v; if nobody watches: %q, %v", src, s.typ, s.err, typ, err)
		}
	}
	return s
}

// spoiled: a list that is told is the watcher's, with all the room behind it.
func spoiled(list []string) {
	list = list[:cap(list)]
	for k := range list {
		list[k] = "mine"
	}
}

func errorText(err error) string {
	if err == nil {
		return ""
	}
	return err.Error()
}

// tells: Watch with MaxFuel tells those rounds, and then answers that type; stopped at any of them, it has told those ahead and that one.
func tells(t *testing.T, src string, env map[string]api.Typed, want string, rounds ...string) {
	t.Helper()
	got := watched(t, src, env, api.MaxFuel, 0)
	if got.typ != want || got.err != nil || !slices.Equal(got.rounds, rounds) {
		t.Errorf("P6: Watch(%q) = %q, %v, told %q; want %q, told %q", src, got.typ, got.err, got.rounds, want, rounds)
	}
	stops(t, src, env, api.MaxFuel, rounds)
}

// ends: Watch tells those rounds, and then answers that error.
func ends(t *testing.T, src string, env map[string]api.Typed, fuel int, want error, rounds ...string) {
	t.Helper()
	got := watched(t, src, env, fuel, 0)
	if !errors.Is(got.err, want) || !slices.Equal(got.rounds, rounds) {
		t.Errorf("P6: Watch(%q) with a fuel of %d: %v, told %.300q; want %v, told %.300q", src, fuel, got.err, got.rounds, want, rounds)
	}
	stops(t, src, env, fuel, rounds)
}

func stops(t *testing.T, src string, env map[string]api.Typed, fuel int, rounds []string) {
	t.Helper()
	for stop := 1; stop <= len(rounds); stop++ {
		got := watched(t, src, env, fuel, stop)
		if got.typ != "" || !errors.Is(got.err, api.ErrStopped) || !slices.Equal(got.rounds, rounds[:stop]) {
			t.Errorf("P6: Watch(%q), stopped at %d: %q, %v, told %.300q; want %.300q", src, stop, got.typ, got.err, got.rounds, rounds[:stop])
		}
	}
}

func TestP6Rounds(t *testing.T) {
	tells(t, "let rec x = x in x", nil, "a", "x 1: a")
	tells(t, "let rec f = 1 in f", nil, "int", "f 1: int", "f 2: int")
	tells(t, "let rec f = fun x -> if true then x else fst (f (x, x)) in f", usual(), "a -> a", "f 1: a -> a", "f 2: a -> a")
	tells(t, "let rec f = fun x -> f (x, 1) in f", nil, "a -> b", "f 1: a -> b", "f 2: a -> b")
	tells(t, "let rec f = fun x -> fun y -> if true then x else f y x in f", usual(), "a -> a -> a", "f 1: a -> b -> a", "f 2: a -> a -> a", "f 3: a -> a -> a")
	// Several names, in the order of the group.
	tells(t, "let rec f = g and g = h and h = 1 in (f, g)", nil, "(int, int)", "f g h 1: a, a, int", "f g h 2: a, int, int", "f g h 3: int, int, int", "f g h 4: int, int, int")
	tells(t, "let rec zz = 1 and aa = true and mm = zz in aa", usual(), "bool", "zz aa mm 1: int, bool, a", "zz aa mm 2: int, bool, int", "zz aa mm 3: int, bool, int")
	tells(t, "let rec f = g and g = f in (f, g)", nil, "(a, b)", "f g 1: a, a")
	// All the signs of types; each scheme begins with a.
	tells(t, "let rec f = fun x -> fun y -> (y, x) and g = fun k -> cons (k 1) and h = fst in 1", usual(), "int",
		"f g h 1: a -> b -> (b, a), (int -> a) -> [a] -> [a], (a, b) -> a", "f g h 2: a -> b -> (b, a), (int -> a) -> [a] -> [a], (a, b) -> a")
	// Without a group there are no rounds.
	tells(t, "fun x -> x", nil, "a -> a")
	tells(t, "let f = 1 in f", nil, "int")
}

func TestP6OuterVariables(t *testing.T) {
	tells(t, "fun y -> let rec f = fun x -> if true then y else f (add y x) in f", usual(), "int -> int -> int", "f 1: int -> int", "f 2: int -> int")
	tells(t, "fun z -> let rec f = z and g = fun x -> f in (f, g)", nil, "a -> (a, b -> a)", "f g 1: _a, a -> b", "f g 2: _a, a -> _a", "f g 3: _a, a -> _a")
	// By the order in which they stand, not by that of their funs; one is called the same in all schemes of a round.
	tells(t, "fun x -> fun y -> let rec f = (y, x) and g = x and h = fun z -> (z, y) in 1", nil, "a -> b -> int",
		"f g h 1: (_a, _b), _b, a -> (a, _a)", "f g h 2: (_a, _b), _b, a -> (a, _a)")
	tells(t, "fun x -> fun y -> let rec f = fun u -> fun v -> (v, (y, (u, x))) in 1", nil, "a -> b -> int", "f 1: a -> b -> (b, (_a, (a, _b)))", "f 2: a -> b -> (b, (_a, (a, _b)))")
	// Anew in each round, and in each group.
	tells(t, "fun x -> fun y -> let rec f = (g, x) and g = y in 1", nil, "a -> b -> int", "f g 1: (a, _a), _b", "f g 2: (_a, _b), _a", "f g 3: (_a, _b), _a")
	tells(t, "fun x -> fun y -> (let rec f = (x, y) in 1, let rec f = y in 1)", nil, "a -> b -> (int, int)", "f 1: (_a, _b)", "f 2: (_a, _b)", "f 1: _a", "f 2: _a")
	// With all that has been found out by the end of the round.
	tells(t, "fun y -> let rec f = y and g = add y 1 in f", usual(), "int -> int", "f g 1: int, int", "f g 2: int, int")
	tells(t, "fun y -> let rec f = y and g = fun x -> add f 1 in g", usual(), "int -> a -> int", "f g 1: _a, a -> int", "f g 2: int, a -> int")
	tells(t, "fun y -> let rec f = (1, y) and g = if true then 1 else snd f in g", usual(), "int -> int", "f g 1: (int, _a), int", "f g 2: (int, int), int")
	tells(t, "fun y -> let rec f = y and g = eq f nil in f", usual(), "[a] -> [a]", "f g 1: _a, bool", "f g 2: [_a], bool")
	tells(t, "fun v -> fun w -> let rec f = (v, w) and g = if true then f else (snd f, fst f) in 1", usual(), "a -> a -> int",
		"f g 1: (_a, _b), (a, b)", "f g 2: (_a, _a), (_a, _a)", "f g 3: (_a, _a), (_a, _a)")
	tells(t, "fun y -> fun z -> let u = (add y 1, add z 1) in let rec f = fun x -> if true then x else k and k = 1 and h = j and j = z and r = if true then f y else h in r", usual(), "int -> int -> int",
		"f k h j r 1: a -> a, int, a, int, a", "f k h j r 2: int -> int, int, int, int, int", "f k h j r 3: int -> int, int, int, int, int")
	// An outer variable that has been found to be an arrow has brackets where an arrow has.
	tells(t, "fun y -> let u = y 1 in let rec f = fun k -> k y and g = y in u", usual(), "(int -> a) -> a",
		"f g 1: ((int -> _a) -> a) -> a, int -> _a", "f g 2: ((int -> _a) -> a) -> a, int -> _a")
	tells(t, "fun y -> let u = y 1 in let rec f = eq y and g = fun k -> y in u", usual(), "(int -> a) -> a",
		"f g 1: (int -> _a) -> bool, a -> int -> _a", "f g 2: (int -> _a) -> bool, a -> int -> _a")
}

// letters: of a tuple of 30 the names of the variables, behind a mark.
func letters(mark string) string {
	text := mark + "d1"
	for k := 28; k >= 0; k-- {
		text = "(" + mark + string(rune('a'+k%26)) + []string{"", "1"}[k/26] + ", " + text + ")"
	}
	return text
}

func TestP6ManyVariables(t *testing.T) {
	env := names("of", strings.ReplaceAll(letters("v"), " ", "")+"->int", "all", strings.ReplaceAll(letters("w"), " ", ""))
	scheme := letters("_") + ", " + letters("")
	// Thirty variables of each kind, behind one that is not the first of them.
	tells(t, "fun x -> let u = of x in let rec f = x and g = all in u", env, letters("")+" -> int", "f g 1: "+scheme, "f g 2: "+scheme)
	tells(t, "fun x -> let u = of x in let rec f = (all, x) in u", env, letters("")+" -> int", "f 1: ("+letters("")+", "+letters("_")+")", "f 2: ("+letters("")+", "+letters("_")+")")
}

func TestP6Nested(t *testing.T) {
	tells(t, "let rec f = let rec g = 1 in g in f", nil, "int", "g 1: int", "g 2: int", "f 1: int", "g 1: int", "g 2: int", "f 2: int")
	tells(t, "let rec f = 1 in let rec g = f in g", nil, "int", "f 1: int", "f 2: int", "g 1: int", "g 2: int")
	tells(t, "let rec f = let rec g = f in g and h = 1 in h", nil, "int", "g 1: a", "f h 1: a, int", "g 1: a", "f h 2: a, int")
	tells(t, "let rec f = (let rec g = (f, 1) in fst g) and h = f in 1", usual(), "int", "g 1: (a, int)", "g 2: (a, int)", "f h 1: a, a")
	// The inner group's rounds are of what the outer's round has.
	tells(t, "let rec f = 1 and h = (let rec g = f in g) in h", nil, "int", "g 1: a", "f h 1: int, a", "g 1: int", "g 2: int", "f h 2: int, int", "g 1: int", "g 2: int", "f h 3: int, int")
	tells(t, "let rec f = fun x -> let rec g = fun y -> if true then x else f y 1 in x in f", usual(), "a -> a", "g 1: a -> _a", "g 2: a -> _a", "f 1: a -> a", "g 1: (int -> _a) -> _a", "g 2: (int -> _a) -> _a", "f 2: a -> a")
	tells(t, "(let rec f = f in f, let rec f = 1 in f)", nil, "(a, int)", "f 1: a", "f 1: int", "f 2: int")
	// Of two groups that hide each other's names.
	tells(t, "let rec f = (let rec f = true in f) in f", usual(), "bool", "f 1: bool", "f 2: bool", "f 1: bool", "f 1: bool", "f 2: bool", "f 2: bool")
}

func TestP6NotEnough(t *testing.T) {
	rounds := []string{"f 1: a -> b", "f 2: a -> b -> c", "f 3: a -> b -> c -> d"}
	for fuel := 1; fuel <= api.MaxFuel; fuel++ {
		if fuel > len(rounds) {
			scheme := strings.TrimPrefix(rounds[fuel-2], "f "+strconv.Itoa(fuel-1)+": ")
			rounds = append(rounds, "f "+strconv.Itoa(fuel)+": "+scheme+" -> "+string(rune('a'+fuel)))
		}
		ends(t, "let rec f = fun x -> f in f", nil, fuel, api.ErrFuel, rounds[:fuel]...)
	}
	ends(t, "let rec f = 1 in f", nil, 1, api.ErrFuel, "f 1: int")
	ends(t, "let rec f = g and g = h and h = 1 in (f, g)", nil, 3, api.ErrFuel, "f g h 1: a, a, int", "f g h 2: a, int, int", "f g h 3: int, int, int")
	ends(t, "let rec f = let rec g = 1 in g in f", nil, 1, api.ErrFuel, "g 1: int")
	ends(t, "let rec f = 1 and h = (let rec g = (1, fst g) in fst g) in f", usual(), 2, api.ErrFuel, "g 1: (int, a)", "g 2: (int, int)")
}

func TestP6Errors(t *testing.T) {
	// Nothing is told of a round that comes to no end.
	ends(t, "let rec f = 1 2 in f", nil, 5, api.ErrType)
	ends(t, "let rec f = 1 and g = 1 2 in f", nil, 5, api.ErrType)
	ends(t, "let rec f = 1 and g = f 2 in g", nil, 5, api.ErrType, "f g 1: int, a")
	ends(t, "let rec f = 1 and g = f 2 in g", nil, 1, api.ErrFuel, "f g 1: int, a")
	ends(t, "let rec f = 1 in f 2", nil, 5, api.ErrType, "f 1: int", "f 2: int")
	ends(t, "let rec f = b and g = (f, f) in 1", sized(60), 5, api.ErrBig, "f g 1: "+lists(59, "int")+", (a, b)")
	ends(t, "let rec f = (b, b) in 1", sized(60), 5, api.ErrBig)
	ends(t, "let rec f = b in (f, f)", sized(60), 5, api.ErrBig, "f 1: "+lists(59, "int"), "f 2: "+lists(59, "int"))
	ends(t, "let rec f = (f, f) in f", nil, 2, api.ErrFuel, "f 1: (a, b)", "f 2: ((a, b), (c, d))")
	// An outer variable may be greater than a part may be; then its fun is too big.
	ends(t, "fun y -> fun z -> let rec f = (y, z) and g = (eq y b, eq z b) in 1", sized(100), 5, api.ErrBig, "f g 1: ("+lists(99, "int")+", "+lists(99, "int")+"), (bool, bool)")
	// What comes ahead of typing is told as Infer tells it, and no round.
	for _, src := range []string{"", "let rec f = 1 and f = 2 in 1", "let rec", deep(api.MaxDepth + 1), strings.Repeat("x", api.MaxText+1), "let rec f = 1 in y"} {
		if got := watched(t, src, usual(), 5, 0); got.err == nil || len(got.rounds) > 0 {
			t.Errorf("P6: Watch(%q): %v, told %q", src, got.err, got.rounds)
		}
	}
	for _, fuel := range []int{-1, 0, api.MaxFuel + 1} {
		ends(t, "let rec f = 1 in f", nil, fuel, api.ErrArg)
	}
	var e *api.EnvError
	if got := watched(t, "let rec f = 1 in f", names("x", "("), 5, 0); !errors.As(got.err, &e) || len(got.rounds) > 0 {
		t.Errorf("P6: %v, told %q", got.err, got.rounds)
	}
}

// What has been told is the watcher's: it stays as it is, and shares no memory with what is told again or was handed in.
func TestP1ToldIsTheCallers(t *testing.T) {
	src := strings.Clone("fun yy -> let rec first = yy and second = third and third = 1 in (first, second)")
	env := map[string]api.Typed{"second": {Type: "bool"}}
	var lists, copies [][]string
	typ, err := infer.Watch(src, env, 5, func(names []string, round int, schemes []string) bool {
		for _, name := range names {
			if shares(name, src) {
				t.Errorf("P1: %q shares memory with the expression", name)
			}
		}
		lists = append(lists, names, schemes)
		copies = append(copies, slices.Clone(names), slices.Clone(schemes))
		return true
	})
	if typ != "a -> (a, int)" || err != nil || len(lists) != 6 {
		t.Fatalf("P6: %q, %v, %q", typ, err, lists)
	}
	for k, list := range lists {
		if !slices.Equal(list, copies[k]) {
			t.Errorf("P1: %q has become %q", copies[k], list)
		}
		spoiled(list)
		for n := k + 1; n < len(lists); n++ {
			if !slices.Equal(lists[n], copies[n]) {
				t.Fatalf("P1: lists %d and %d are one", k, n)
			}
		}
	}
}

// A watcher may call the program, and be called by way of it.
func TestP1WithinARound(t *testing.T) {
	src := "fun y -> let rec f = fun x -> (y, g) and g = 1 in f"
	want := []string{"f g 1: a -> (_a, b), int", "f g 2: a -> (_a, int), int", "f g 3: a -> (_a, int), int"}
	env := usual()
	var told []string
	var watch func(deep int) func(names []string, round int, schemes []string) bool
	watch = func(deep int) func(names []string, round int, schemes []string) bool {
		return func(names []string, round int, schemes []string) bool {
			if deep > 0 {
				if typ, err := infer.Watch(src, env, 4, watch(deep-1)); typ != "a -> b -> (a, int)" || err != nil {
					t.Errorf("P1: within a round: %q, %v", typ, err)
				}
				if typ, err := infer.Infer("let rec f = fun x -> f in f", env, 3); typ != "" || !errors.Is(err, api.ErrFuel) {
					t.Errorf("P1: within a round: %q, %v", typ, err)
				}
				if typ, err := infer.Watch("let rec f = 1 in f", env, 3, func([]string, int, []string) bool { return false }); typ != "" || !errors.Is(err, api.ErrStopped) {
					t.Errorf("P1: within a round: %q, %v", typ, err)
				}
			}
			told = append(told, strings.Join(names, " ")+" "+strconv.Itoa(round)+": "+strings.Join(schemes, ", "))
			return true
		}
	}
	if typ, err := infer.Watch(src, env, 4, watch(2)); typ != "a -> b -> (a, int)" || err != nil {
		t.Errorf("P1: %q, %v", typ, err)
	}
	var all []string
	for _, outer := range want {
		for _, inner := range want {
			all = append(append(all, want...), inner)
		}
		all = append(all, outer)
	}
	if !slices.Equal(told, all) {
		t.Errorf("P1: told %q, want %q", told, all)
	}
	if !maps.Equal(env, usual()) {
		t.Errorf("P1: the map has changed")
	}
}

// great: a group in whose second round, behind f's body, an outer variable becomes as many times fifty of the last one as there are links.
func great(links int) (src string, env map[string]api.Typed) {
	outer := "abchijkl"[:links+1]
	for _, name := range outer {
		src += "fun " + string(name) + "->"
	}
	src += "let rec f=a and q=e and g="
	for k := range links {
		src += "(q " + outer[k:k+1] + " " + outer[k+1:k+2] + ","
	}
	return src + "1" + strings.Repeat(")", links) + " in 1", names("e", paired(50, "a")+"->a->int")
}

// tuple: parts, each paired with all that come behind it.
func tuple(parts ...string) string {
	last := len(parts) - 1
	return "(" + strings.Join(parts[:last], ", (") + ", " + parts[last] + strings.Repeat(")", last)
}

// fifty: that many of a type, as great has them.
func fifty(of string) string {
	return strings.NewReplacer(",", ", ", "v", of).Replace(paired(50, "v"))
}

// Outer variables that are greater than any part may be are told, however great they are: here up to 37 million bytes.
func TestP6GreatSchemes(t *testing.T) {
	q, is := fifty("a")+" -> a -> int", fifty("_a")
	for links := 2; links <= 4; links++ {
		is = fifty(is)
		src, env := great(links)
		first := "f q g 1: _a, " + q + ", " + tuple(append(words("a b c d")[:links:links], "int")...)
		second := "f q g 2: " + is + ", " + q + ", " + tuple(append(slices.Repeat(words("int"), links), "int")...)
		ends(t, src, env, 1, api.ErrFuel, first)
		ends(t, src, env, 2, api.ErrFuel, first, second)
		ends(t, src, env, 3, api.ErrBig, first, second)
	}
}

// Great ones wherever they may stand: in the first round, in several schemes, in the last round of a group that others stand behind, in a group within another.
func TestP6GreatSchemesAnywhere(t *testing.T) {
	env := names("c", "a->"+paired(50, "a")+"->int", "fst", "(a,b)->a")
	c, great := "a -> "+fifty("a")+" -> int", fifty(fifty(fifty("_a")))
	ends(t, "fun v->fun w->fun x->fun y->let rec f=v and g=(c w v,(c x w,c y x)) in 1", env, 3, api.ErrBig, "f g 1: "+great+", (int, (int, int))")
	ends(t, "fun v->fun w->fun x->fun y->let rec f=v and g=(c w v,(c x w,c y x)) in 1", env, 1, api.ErrFuel, "f g 1: "+great+", (int, (int, int))")
	ends(t, "fun v->fun w->fun x->fun y->let rec f=v and k=fun z->(y,(z,(v,w))) and g=(c w v,(c x w,c y x)) in 1", env, 3, api.ErrBig,
		"f k g 1: "+great+", a -> (_a, (a, ("+great+", "+fifty(fifty("_a"))+"))), (int, (int, int))")
	last := "let rec f=v and g=fst(1,(q w v,(q x w,q y x))) and q=c in "
	rounds := []string{"f g q 1: _a, int, " + c, "f g q 2: " + great + ", int, " + c}
	ends(t, "fun v->fun w->fun x->fun y->"+last+"let rec k=1 in k", env, 3, api.ErrBig, append(rounds, "k 1: int", "k 2: int")...)
	ends(t, "fun v->fun w->fun x->fun y->"+last+"1 2", env, 2, api.ErrType, rounds...)
	ends(t, "let rec h=fun v->fun w->fun x->fun y->"+last+"1 in h", env, 3, api.ErrBig, rounds...)
	ends(t, "fun v->fun w->fun x->fun y->let rec h="+last+"1 in h", env, 3, api.ErrBig, append(rounds, "h 1: int")...)
}

func TestP1GreatSchemesEnd(t *testing.T) {
	src, env := great(7)
	for fuel, want := range map[int]error{1: api.ErrFuel, 2: api.ErrFuel, 3: api.ErrBig, api.MaxFuel: api.ErrBig} {
		soon(t, src, env, fuel, want)
		soon(t, strings.Replace(src, "in 1", "in 1 2", 1), env, fuel, want)
	}
}
