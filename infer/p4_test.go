package infer_test

import (
	"errors"
	"maps"
	"math"
	"strconv"
	"strings"
	"testing"
	"time"

	"typer/api"
	"typer/infer"
)

// names: an environment: names and types, in turn.
func names(pairs ...string) map[string]api.Typed {
	env := map[string]api.Typed{}
	for k := 0; k < len(pairs); k += 2 {
		env[pairs[k]] = api.Typed{Type: pairs[k+1]}
	}
	return env
}

// usual: an environment of names of all kinds of types.
func usual() map[string]api.Typed {
	return names("true", "bool", "nil", "[a]", "cons", "a -> [a] -> [a]", "fst", "(a, b) -> a", "snd", "(a, b) -> b", "add", "int -> int -> int", "eq", "a -> a -> bool", "hd", "[q] -> q")
}

// infers: what Infer answers; env stays as it was.
func infers(t *testing.T, src string, env map[string]api.Typed, fuel int) (string, error) {
	t.Helper()
	was := maps.Clone(env)
	typ, err := infer.Infer(src, env, fuel)
	if !maps.Equal(env, was) {
		t.Errorf("P4: Infer(%q) has changed the map to %v", src, env)
	}
	if err != nil && typ != "" {
		t.Errorf("P4: Infer(%q) = %q beside %v", src, typ, err)
	}
	return typ, err
}

// typed: Infer answers that type.
func typed(t *testing.T, src string, env map[string]api.Typed, want string) {
	t.Helper()
	if typ, err := infers(t, src, env, 1); typ != want || err != nil {
		t.Errorf("P4: Infer(%q) = %q, %v, want %q", src, typ, err, want)
	}
}

// untyped: Infer answers that error, which says all by itself.
func untyped(t *testing.T, src string, env map[string]api.Typed, want error) {
	t.Helper()
	if typ, err := infers(t, src, env, 1); !errors.Is(err, want) {
		t.Errorf("P4: Infer(%q) = %q, %v, want %v", src, typ, err, want)
	}
}

// unbound: Infer answers an *UnboundError of that name at that place.
func unbound(t *testing.T, src string, env map[string]api.Typed, at int, name string) {
	t.Helper()
	var u *api.UnboundError
	if typ, err := infers(t, src, env, 1); !errors.As(err, &u) || u.At != at || u.Name != name {
		t.Errorf("P4: Infer(%q) = %q, %v, want an *UnboundError of %s at %d", src, typ, err, name, at)
	}
}

func TestP4Types(t *testing.T) {
	for _, c := range []struct{ src, want string }{
		{"1", "int"},
		{"007", "int"},
		{"(1)", "int"},
		{"(1, (2))", "(int, int)"},
		{"fun x -> x", "a -> a"},
		{"fun x -> 1", "a -> int"},
		{"fun x -> fun y -> x", "a -> b -> a"},
		{"fun x -> fun y -> (y, x)", "a -> b -> (b, a)"},
		{"fun f -> f 1", "(int -> a) -> a"},
		{"fun f -> fun g -> fun x -> f (g x)", "(a -> b) -> (c -> a) -> c -> b"},
		{"fun f -> fun x -> f (f x)", "(a -> a) -> a -> a"},
		{"fun f -> fun x -> f x x", "(a -> a -> b) -> a -> b"},
		{"fun x -> fun y -> fun z -> x z (y z)", "(a -> b -> c) -> (a -> b) -> a -> c"},
		{"fun c -> fun x -> fun y -> if c then x else y", "bool -> a -> a -> a"},
		{"fun c -> fun x -> if c x then x else 1", "(int -> bool) -> int -> int"},
		{"fun x -> if x then x else x", "bool -> bool"},
		{"(fun x -> x) 1", "int"},
		{"(fun x -> x) (fun x -> x)", "a -> a"},
		{"(fun f -> fun x -> f x) (fun y -> (y, y))", "a -> (a, a)"},
		{"let x = 1 in (x, x)", "(int, int)"},
		{"let x = 1 in 2", "int"},
		{"fun f -> fun x -> fun y -> (f x, f y)", "(a -> b) -> a -> a -> (b, b)"},
	} {
		typed(t, c.src, nil, c.want)
		typed(t, c.src, names(), c.want)
		typed(t, c.src, usual(), c.want)
	}
}

func TestP4Env(t *testing.T) {
	for _, c := range []struct{ src, want string }{
		{"true", "bool"},
		{"nil", "[a]"},
		{"cons", "a -> [a] -> [a]"},
		{"hd", "[a] -> a"},
		{"add 1", "int -> int"},
		{"add 1 2", "int"},
		{"(1,(true))", "(int, bool)"},
		{"if true then 1 else 2", "int"},
		{"fst (1, true)", "int"},
		{"snd (1, true)", "bool"},
		{"fun b -> if b then fst else snd", "bool -> (a, a) -> a"},
		{"fun x -> cons (x, nil) nil", "a -> [(a, [b])]"},
		{"cons 1 nil", "[int]"},
		{"cons cons nil", "[a -> [a] -> [a]]"},
		{"hd (cons add nil) 1", "int -> int"},
		{"eq nil", "[a] -> bool"},
		{"eq eq", "(a -> a -> bool) -> bool"},
		{"eq fst snd", "bool"},
	} {
		typed(t, c.src, usual(), c.want)
	}
	// The variables of a name's type are fresh at each use.
	typed(t, "(nil, nil)", usual(), "([a], [b])")
	typed(t, "(cons 1 nil, cons true nil)", usual(), "([int], [bool])")
	typed(t, "(fst, fst)", usual(), "((a, b) -> a, (c, d) -> c)")
	typed(t, "fst (snd, fst)", usual(), "(a, b) -> b")
	// Those of two names' types are not the same, whatever they are called.
	typed(t, "(x, y)", names("x", "v", "y", "v"), "(a, b)")
	typed(t, "x y", names("x", "a -> b -> a", "y", "(b, a)"), "a -> (b, c)")
	// One variable stands for one type wherever it stands.
	typed(t, "x 1", names("x", "let -> rec -> (let, rec)"), "a -> (int, a)")
	// The texts of types are read as Canon reads them.
	typed(t, "x", names("x", " ((in)->\n[let])\n"), "a -> [b]")
	typed(t, "int", names("int", "bool", "bool", "int"), "bool")
	typed(t, "fun int -> (int, bool)", names("int", "bool", "bool", "int"), "a -> (a, int)")
	typed(t, "abcdefg1", names("abcdefg1", "abcdefg1"), "a")
}

func TestP4NoType(t *testing.T) {
	for _, src := range []string{
		"1 2", "1 1 1", "(1, 2) 1", "true 1", "nil nil", "add true", "add 1 true", "add 1 2 3", "fst 1", "hd 1", "hd (1, 2)", "fst nil", "cons 1 2", "cons 1 (cons true nil)",
		"if 1 then 1 else 1", "if true then 1 else true", "if true then nil else 1", "if true then (1, 1) else nil", "if (fun x -> x) then 1 else 1", "if true then fst else 1",
		"(fun i -> (i 1, i true)) (fun x -> x)", "(let x = 1 in x) 2", "fun x -> (x 1, add x)", "fun x -> add (x, x)", "eq 1 true", "eq fst hd", "let x = 1 2 in 1", "fun x -> 1 2",
	} {
		untyped(t, src, usual(), api.ErrType)
	}
	// What would have to stand within itself.
	for _, src := range []string{
		"fun x -> x x", "fun x -> cons x x", "fun x -> eq x (x, x)", "fun x -> eq x (fun y -> x)", "fun x -> if true then x else (1, x)", "fun x -> fun y -> (x y, y x)",
		"fun x -> fun y -> (eq x (y, 1), eq y (x, 1))", "fun x -> eq (cons x nil) x", "(fun x -> x x) (fun x -> x x)", "fun f -> f f", "fun x -> x (x, 1)", "fun x -> eq x (let y = x in cons y nil)",
		"fun x -> fun y -> fun z -> (eq x (y, y), (eq y (z, z), eq z (x, x)))",
	} {
		untyped(t, src, usual(), api.ErrType)
	}
	// But not what stands beside itself, or equals itself.
	typed(t, "fun x -> eq x x", usual(), "a -> bool")
	typed(t, "fun x -> fun y -> (eq x y, eq y x)", usual(), "a -> a -> (bool, bool)")
	typed(t, "fun x -> fun y -> (eq (x, y) (y, x), x)", usual(), "a -> a -> (bool, a)")
	typed(t, "let i = fun x -> x in i i", usual(), "a -> a")
	typed(t, "let d = fun x -> (x, x) in d d", usual(), "(a -> (a, a), a -> (a, a))")
	typed(t, "let d = fun x -> (x, x) in (d, d)", usual(), "(a -> (a, a), b -> (b, b))")
	typed(t, "fun x -> x (x 1)", usual(), "(int -> int) -> int")
}

func TestP4Let(t *testing.T) {
	for _, c := range []struct{ src, want string }{
		{"let i = fun x -> x in (i 1, i true)", "(int, bool)"},
		{"let f = fun x -> x in let x = f in x", "a -> a"},
		{"let i = fun x -> x in let j = i in (j 1, j true)", "(int, bool)"},
		{"let n = nil in (cons 1 n, cons true n)", "([int], [bool])"},
		// What stands for any type need not be a function.
		{"let i = (fun x -> x) (fun x -> x) in (i 1, i true)", "(int, bool)"},
		{"let p = (nil, nil) in p", "([a], [b])"},
		{"let p = (fun n -> (n, n)) nil in p", "([a], [a])"},
		// The variables of an outer name's type do not stand for any type.
		{"fun x -> let y = x in (y, y)", "a -> (a, a)"},
		{"fun x -> let y = fun z -> x in y", "a -> b -> a"},
		{"fun x -> let y = fun z -> x in (y 1, y true)", "a -> (a, a)"},
		{"fun x -> let f = fun y -> (x, y) in (f 1, f true)", "a -> ((a, int), (a, bool))"},
		{"fun x -> let f = fun y -> (x, y) in (f, f)", "a -> (b -> (a, b), c -> (a, c))"},
		{"fun x -> let y = x in let z = y in (z, x)", "a -> (a, a)"},
		{"fun f -> fun x -> let y = f x in (y, y)", "(a -> b) -> a -> (b, b)"},
		// Nor those that are found out later.
		{"fun x -> let y = x in (add x 1, y)", "int -> (int, int)"},
		{"fun x -> let y = x in (add y 1, x)", "int -> (int, int)"},
		{"fun x -> let y = fun z -> (x, z) in (add x 1, y)", "int -> (int, a -> (int, a))"},
		{"fun x -> let f = fun y -> x in let z = add (f 1) (f true) in f", "int -> a -> int"},
		{"fun x -> let y = x in fun z -> (eq x (z, z), y)", "(a, a) -> a -> (bool, (a, a))"},
		{"fun x -> let y = (eq x, x) in let z = fst y nil in (snd y, x)", "[a] -> ([a], [a])"},
		// What is found out ahead of the let holds in it.
		{"fun x -> let z = add x 1 in let y = x in y", "int -> int"},
		{"fun x -> (add x 1, let y = x in y)", "int -> (int, int)"},
		{"fun x -> fun y -> (eq x (cons y nil), let z = hd x in (z, y))", "[a] -> a -> (bool, (a, a))"},
	} {
		typed(t, c.src, usual(), c.want)
	}
	for _, src := range []string{
		"fun x -> let y = x in (y 1, y true)",
		"fun f -> let g = fun x -> f x in (g 1, g true)",
		"fun f -> fun x -> let y = f x in (y 1, y true)",
		"fun x -> let y = cons x nil in (cons 1 y, cons true y)",
		"fun x -> let y = x in let z = y in (add z 1, if z then 1 else 2)",
		"fun x -> let y = hd x in (add y 1, if y then 1 else 2)",
		"fun x -> let f = fun y -> if true then x else y in (f 1, f true)",
		// The variable comes into an outer name's type only while the let is typed, or behind it.
		"fun x -> let y = fun z -> (eq x z, z) in (y 1, y true)",
		"fun x -> let y = (fun z -> let w = eq x (z, z) in z) in (y 1, y true)",
		"fun x -> let y = x in let z = eq x nil in (cons 1 y, cons true y)",
		// An outer name that is hidden.
		"fun x -> let y = x in fun x -> let z = y in (z 1, z true)",
		"fun x -> let y = x in let x = 1 in let z = y in (z 1, z true)",
		"fun x -> let x = x in let x = x in (x 1, x true)",
	} {
		untyped(t, src, usual(), api.ErrType)
	}
}

func TestP4Hiding(t *testing.T) {
	for _, c := range []struct{ src, want string }{
		{"fun fst -> fst 1", "(int -> a) -> a"},
		{"fun true -> true", "a -> a"},
		{"let true = 1 in add true true", "int"},
		{"let add = add 1 in add", "int -> int"},
		{"(let add = 1 in add, add)", "(int, int -> int -> int)"},
		{"((fun add -> add) 1, add 1)", "(int, int -> int)"},
		{"(if (fun add -> add) true then add else add, add)", "(int -> int -> int, int -> int -> int)"},
		{"fun x -> fun x -> x", "a -> b -> b"},
		{"fun x -> (fun x -> x, x)", "a -> (b -> b, a)"},
		{"fun a -> (if a then 1 else 2, fun a -> a)", "bool -> (int, a -> a)"},
		{"let x = 1 in let x = (x, x) in x", "(int, int)"},
		{"let x = 1 in (let x = true in x, x)", "(bool, int)"},
		{"let x = 1 in let y = (let x = true in x) in (x, y)", "(int, bool)"},
		{"let x = true in fun x -> (add x 1, x)", "int -> (int, int)"},
		{"fun x -> let x = (x, 1) in x", "a -> (a, int)"},
		{"let x = fun x -> x in x x", "a -> a"},
	} {
		typed(t, c.src, usual(), c.want)
	}
}

func TestP4Unbound(t *testing.T) {
	for _, c := range []struct {
		src  string
		at   int
		name string
	}{
		{"y", 0, "y"}, {" \n yy ", 3, "yy"}, {"(y)", 1, "y"}, {"y z", 0, "y"}, {"1 y", 2, "y"}, {"(y, z)", 1, "y"}, {"(1, z)", 4, "z"},
		{"let x = x in 1", 8, "x"}, {"let x = y in z", 8, "y"}, {"let x = 1 in (x, y)", 17, "y"}, {"(let x = 1 in x) x", 17, "x"}, {"(let x = 1 in x, x)", 17, "x"},
		{"fun x -> y", 9, "y"}, {"(fun x -> x) x", 13, "x"}, {"fun x -> (x, z) y", 13, "z"}, {"fun x -> fun y -> x y z", 22, "z"},
		{"if fst then a else b", 12, "a"}, {"if c then a else b", 3, "c"}, {"if 1 then 1 else b", 17, "b"},
		{"let y = (let x = 1 in x) in x", 28, "x"}, {"let x = (fun y -> y) in y", 24, "y"},
		{"let rec f = g and g = f in h", 27, "h"}, {"let rec f = h and g = f in 1", 12, "h"}, {"let rec f = f and g = h in f", 22, "h"}, {"(let rec f = f in f) f", 21, "f"}, {"(let rec f = f and g = f in f, g)", 31, "g"},
		{"abcdefgh", 0, "abcdefgh"}, {"int", 0, "int"}, {"bool", 0, "bool"}, {"true1", 0, "true1"}, {"tru", 0, "tru"},
	} {
		unbound(t, c.src, usual(), c.at, c.name)
	}
	for _, env := range []map[string]api.Typed{nil, {}} {
		unbound(t, "true", env, 0, "true")
		unbound(t, "fun x -> add x 1", env, 9, "add")
	}
	// It comes ahead of all that typing tells.
	for _, src := range []string{"(1 2, y)", "(fun x -> x x, y)", "let x = 1 in if x then x else y", "let b = add in (b true, y)", "fun x -> let z = x x in y"} {
		unbound(t, src, usual(), strings.IndexByte(src, 'y'), "y")
	}
	unbound(t, "(big, (big, y))", names("big", lists(api.MaxSize-1, "a")), 12, "y")
}

func TestP4Fuel(t *testing.T) {
	for fuel := 1; fuel <= api.MaxFuel; fuel++ {
		if typ, err := infers(t, "fun x -> x", usual(), fuel); typ != "a -> a" || err != nil {
			t.Errorf("P4: with a fuel of %d: %q, %v", fuel, typ, err)
		}
	}
	for _, fuel := range []int{0, -1, api.MaxFuel + 1, -api.MaxFuel, math.MaxInt, math.MinInt, 1 << 32, 1<<32 + 1} {
		for _, src := range []string{"1", "y", "1 2", "let rec f = f in f"} {
			for _, env := range []map[string]api.Typed{nil, usual(), names("X", "("), names("x", ")")} {
				if typ, err := infers(t, src, env, fuel); !errors.Is(err, api.ErrArg) {
					t.Errorf("P4: Infer(%q) with a fuel of %d: %q, %v", src, fuel, typ, err)
				}
			}
		}
	}
}

// What Show tells comes ahead of all else.
func TestP4Shows(t *testing.T) {
	bad := names("X", "(")
	for _, env := range []map[string]api.Typed{nil, usual(), bad} {
		for _, fuel := range []int{0, 1, api.MaxFuel + 1} {
			for _, src := range []string{"", "y (", "1 )", "abcdefghi", "fun 1 -> 1", "let rec f = 1 and f = 2 in 1", "x # y", strings.Repeat("x ", 150) + ")", strings.Repeat("x", 301), deep(api.MaxDepth + 1), deep(api.MaxDepth+1) + ")"} {
				_, want := infer.Show(src)
				_, err := infers(t, src, env, fuel)
				var s, u *api.SyntaxError
				if errors.As(want, &s) != errors.As(err, &u) || s != nil && *s != *u || s == nil && err != want {
					t.Errorf("P4: Infer(%.60q) tells %v, Show %v", src, err, want)
				}
			}
		}
	}
	unbound(t, deep(api.MaxDepth), nil, 0, "x")
	typed(t, strings.Repeat("(fun x -> x) (", 19)+"1"+strings.Repeat(")", 19), nil, "int")
}

// envError: Infer answers an *EnvError of that name; what it unwraps to.
func envError(t *testing.T, env map[string]api.Typed, name string) error {
	t.Helper()
	var e *api.EnvError
	// Neither a name that stands for nothing nor what has no type is told ahead of it.
	for _, src := range []string{"1", "y", "1 2", "fun x -> x"} {
		typ, err := infers(t, src, env, api.MaxFuel)
		if !errors.As(err, &e) || e.Name != name {
			t.Fatalf("P4: Infer(%q) = %q, %v, want an *EnvError of %q", src, typ, err, name)
		}
		if errors.Unwrap(e) != e.Why {
			t.Errorf("P4: the *EnvError of %q unwraps to %v, not to %v", name, errors.Unwrap(e), e.Why)
		}
	}
	return e.Why
}

func TestP4EnvNames(t *testing.T) {
	for _, name := range []string{"", " ", "x ", " x", "x\n", "x y", "x,", "(x)", "1", "1x", "X", "xY", "_a", "é", "xé", "\x00", "x\x00", "\xff", "->", "abcdefghi", "let", "fun", "rec", "and", "in", "if", "then", "else", strings.Repeat("x", 100000)} {
		// The name is told, whatever is wrong with the type.
		for _, typ := range []string{"int", "a", "", "(", lists(api.MaxSize, "a"), strings.Repeat(" ", api.MaxText+1)} {
			if why := envError(t, names(name, typ, "\xff\xff", ")", "zzzzzzzz", "int"), name); why != nil {
				t.Errorf("P4: the name %q: %v", name, why)
			}
		}
	}
	for _, name := range []string{"x", "x1", "a1b2c3d4", "abcdefgh", "int", "bool", "funs", "lets", "letrec", "i"} {
		typed(t, name, names(name, "int"), "int")
	}
}

func TestP4EnvTypes(t *testing.T) {
	long, big := strings.Repeat(" ", api.MaxText+1), lists(api.MaxSize, "a")
	var s *api.SyntaxError
	for _, c := range []struct {
		typ string
		at  int
	}{{"", 0}, {"(", 1}, {")", 0}, {"a ->", 4}, {"1", 0}, {"[]", 1}, {"(a, b, c)", 5}, {"abcdefghi", 0}, {"a  b", 3}, {big + "->", len(big) + 2}} {
		if why := envError(t, names("a", "int", "m", c.typ), "m"); !errors.As(why, &s) || s.At != c.at {
			t.Errorf("P4: the type %q: %v, want a *SyntaxError at %d", c.typ, why, c.at)
		}
	}
	if why := envError(t, names("m", long), "m"); why != api.ErrLong {
		t.Errorf("P4: a long type: %v", why)
	}
	if why := envError(t, names("m", big), "m"); why != api.ErrBig {
		t.Errorf("P4: a big type: %v", why)
	}
	typed(t, "m", names("m", lists(api.MaxSize-1, "q")), lists(api.MaxSize-1, "a"))
	// The error is asked through the *EnvError.
	_, err := infer.Infer("1", names("m", long), 1)
	if !errors.Is(err, api.ErrLong) || errors.Is(err, api.ErrBig) {
		t.Errorf("P4: %v unwraps to another", err)
	}
	if _, err = infer.Infer("1", names("m", "a )"), 1); !errors.As(err, &s) || s.At != 2 {
		t.Errorf("P4: %v unwraps to another", err)
	}
}

// Of several names the least by bytes is told, for whatever reason.
func TestP4EnvLeast(t *testing.T) {
	order := []string{"", "\n", " x", "1", "A", "Z", "_", "a", "a1", "aa", "ab", "b", "let", "z", "zz", "é", "\xff"}
	env := names()
	for k := len(order) - 1; k >= 0; k-- {
		env[order[k]] = api.Typed{Type: ")"}
		envError(t, env, order[k])
	}
	// One whose type is right is not told.
	env = names("a", "int", "b", "(", "c", ")", "let", "int")
	if why := envError(t, env, "b"); why == nil {
		t.Errorf("P4: b has a type")
	}
	env["b"] = api.Typed{Type: "(a)"}
	envError(t, env, "c")
	env["c"] = api.Typed{Type: "[c]"}
	if why := envError(t, env, "let"); why != nil {
		t.Errorf("P4: let: %v", why)
	}
	delete(env, "let")
	typed(t, "(b, c)", env, "(a, [b])")
	// A name that is not used, or hidden, is asked as well.
	envError(t, names("y", "("), "y")
	var e *api.EnvError
	if _, err := infer.Infer("fun y -> y", names("y", "("), 1); !errors.As(err, &e) || e.Name != "y" {
		t.Errorf("P4: %v", err)
	}
}

// sized: the usual environment, in which b has a type of that size.
func sized(size int) map[string]api.Typed {
	env := usual()
	env["b"] = api.Typed{Type: lists(size-1, "int")}
	env["one"] = api.Typed{Type: "a -> [a]"}
	return env
}

func TestP4Big(t *testing.T) {
	// With the greatest size of b by which no part is too big.
	for _, c := range []struct {
		src  string
		most int
	}{
		{"b", 120}, {"(b)", 120}, {"(b, 1)", 118}, {"(1, b)", 118}, {"((1, 1), b)", 116}, {"(b, b)", 59}, {"fun x -> b", 118}, {"fun x -> fun y -> b", 116}, {"one b", 119}, {"one (one b)", 118},
		{"let x = b in x", 120}, {"let x = b in (x, 1)", 118}, {"let x = (b, 1) in 1", 118}, {"let x = fun y -> b in 1", 118}, {"let x = fun y -> (b, y) in 1", 116},
		{"if true then one b else nil", 119}, {"if true then nil else one b", 119}, {"if eq b b then 1 else 2", 118}, {"if eq nil b then 1 else 2", 120},
		{"eq b", 118}, {"cons b nil", 58}, {"cons b", 58}, {"fst (1, b)", 118}, {"snd (1, b)", 118}, {"fun f -> (f b, 1)", 114}, {"fun f -> f b", 116}, {"(fun x -> b) 1", 118},
		// Parts that are not to be seen in the whole.
		{"(fun x -> 1) (one b)", 119}, {"(fun x -> 1) (fun x -> b)", 118}, {"(fun f -> 1) (fun f -> f b)", 116},
		// Types that are too big only when they have been made equal.
		{"fun x -> if true then x else b", 59}, {"fun x -> let y = eq b x in x", 59}, {"fun x -> let y = eq b x in 1", 118}, {"fun x -> let y = eq b x in (x, 1)", 58},
		{"fun x -> fun y -> if true then (x, b) else (b, y)", 29}, {"fun x -> fun y -> let z = if true then (x, b) else (b, y) in 1", 58},
		// What is found out behind a part does not make it too big, if it is not asked again.
		{"(fun x -> 1) b", 120}, {"(fun x -> fun y -> 1) b", 120}, {"(fun x -> fun y -> y) b", 120}, {"let f = fun x -> 1 in f b", 120}, {"(fun x -> x) b", 120}, {"(fun f -> f b) (fun y -> 1)", 116}, {"fst (b, 1)", 118},
	} {
		if typ, err := infers(t, c.src, sized(c.most), 1); typ == "" || err != nil {
			t.Errorf("P4: Infer(%q) with b of size %d: %q, %v, want no error", c.src, c.most, typ, err)
		}
		untyped(t, "let z = "+c.src+" in 1 2", sized(c.most), api.ErrType)
		if c.most < api.MaxSize {
			untyped(t, c.src, sized(c.most+1), api.ErrBig)
			untyped(t, "let z = "+c.src+" in 1 2", sized(c.most+1), api.ErrBig)
		}
	}
	typed(t, "(fun x -> fun y -> y) b", sized(120), "a -> a")
	typed(t, "b", sized(120), lists(119, "int"))
	// Each d doubles the size, and adds one.
	d := "let d = fun x -> (x, x) in "
	typed(t, d+"d (d (d (d (d 1))))", nil, doubled(5))
	untyped(t, d+"d (d (d (d (d (d 1)))))", nil, api.ErrBig)
	untyped(t, d+"(fun x -> 1) (d (d (d (d (d (d 1))))))", nil, api.ErrBig)
}

// doubled: int, paired with itself so many times.
func doubled(n int) string {
	if n == 0 {
		return "int"
	}
	half := doubled(n - 1)
	return "(" + half + ", " + half + ")"
}

// A name's type counts with what has been found out by the time it is used.
func TestP4BigByThen(t *testing.T) {
	untyped(t, "fun x -> ((x, x), (eq b x, 1 2))", sized(118), api.ErrType)
	untyped(t, "fun x -> (eq b x, ((x, x), 1 2))", sized(59), api.ErrType)
	untyped(t, "fun x -> (eq b x, ((x, x), 1 2))", sized(60), api.ErrBig)
	untyped(t, "fun x -> let y = (x, x) in (eq b x, 1 2)", sized(118), api.ErrType)
	untyped(t, "fun x -> let y = (x, x) in (eq b x, (y, 1 2))", sized(59), api.ErrType)
	untyped(t, "fun x -> let y = (x, x) in (eq b x, (y, 1 2))", sized(60), api.ErrBig)
	// The function is not asked again when the other side has been found out.
	untyped(t, "fun x -> (fun p -> fun q -> 1 2) (x, x) (eq b x)", sized(118), api.ErrType)
}

// Of what has no type and what is too big, the first is told.
func TestP4TellsFirst(t *testing.T) {
	// @ is too big, # has no type.
	for _, c := range []struct {
		src  string
		want error
	}{
		{"(@, #)", api.ErrBig}, {"(#, @)", api.ErrType}, {"@ #", api.ErrBig}, {"# @", api.ErrType}, {"1 @", api.ErrBig}, {"@ 1", api.ErrBig}, {"let x = @ in #", api.ErrBig}, {"let x = # in @", api.ErrType},
		{"if @ then 1 else 1", api.ErrBig}, {"if 1 then @ else 1", api.ErrType}, {"if 1 then 1 else @", api.ErrType}, {"if # then @ else @", api.ErrType},
		{"if true then @ else #", api.ErrBig}, {"if true then # else @", api.ErrType}, {"if true then 1 else @", api.ErrBig}, {"if true then @ else 1", api.ErrBig},
		{"fun x -> @", api.ErrBig}, {"fun x -> x x @", api.ErrType}, {"fun x -> x @ x", api.ErrBig}, {"fun x -> (x x, @)", api.ErrType}, {"fun x -> (@, x x)", api.ErrBig},
		{"add @ #", api.ErrBig}, {"add true @", api.ErrType}, {"add # @", api.ErrType}, {"(fun x -> @) #", api.ErrBig}, {"(fun x -> #) @", api.ErrType}, {"let x = 1 in @ #", api.ErrBig},
	} {
		src := strings.NewReplacer("@", "(b, b)", "#", "(1 2)").Replace(c.src)
		untyped(t, src, sized(60), c.want)
	}
}

// soon: what the call answers, watched or not; none that would go through all of a type that is greater than can be counted ends in time.
func soon(t *testing.T, src string, env map[string]api.Typed, fuel int, want error) {
	t.Helper()
	if len(src) > api.MaxText {
		t.Fatalf("too long: %q", src)
	}
	told := make(chan error, 2)
	go func() {
		_, err := infer.Infer(src, env, fuel)
		told <- err
		_, err = infer.Watch(src, env, fuel, func([]string, int, []string) bool { return true })
		told <- err
	}()
	for range 2 {
		select {
		case err := <-told:
			if !errors.Is(err, want) {
				t.Errorf("P1: Infer or Watch of %q with a fuel of %d: %v, want %v", src, fuel, err, want)
			}
		case <-time.After(20 * time.Second):
			t.Fatalf("P1: Infer or Watch of %q does not end", src)
		}
	}
}

// paired: v, paired with itself until that many stand there.
func paired(n int, v string) string {
	if n == 1 {
		return v
	}
	return "(" + paired(n/2, v) + "," + paired(n-n/2, v) + ")"
}

func TestP1GreatTypesEnd(t *testing.T) {
	env := names("e", paired(50, "a")+"->a->int", "s", "a->a->int", "d", "b->(a,a)", "t", "bool", "one", "int")
	all := "abcfghijklmnopqr"
	grown := func(both string, first string, chains []string, last string) string {
		src := ""
		for _, name := range all {
			src += "fun " + string(name) + "->"
		}
		// The pair stands ahead of what makes its types great, as a name whose type is great already is a part that is too big; then its two are made equal.
		src += "if t then " + both + " else d("
		pairs := strings.Count(first, "(")
		src += first
		for _, names := range chains {
			// Of each name fifty of the next one.
			for k := range len(names) - 1 {
				src += "(e " + names[k:k+1] + " " + names[k+1:k+2] + ","
				pairs++
			}
		}
		return src + last + strings.Repeat(")", pairs+1)
	}
	one, other := "abcfghij", "klmnopqr"
	two := []string{one, other}
	for _, last := range []string{"1", "s j r", "let z=1 in z", "(s j one,s r one)"} {
		soon(t, grown("(1,2)", "", two, last), env, 1, api.ErrBig)
		soon(t, grown("(1,t)", "", two, last), env, 1, api.ErrType)
		soon(t, grown("(a,k)", "", two, last), env, 1, api.ErrBig)
		soon(t, grown("((a,k),(k,a))", "", two, last), env, 1, api.ErrBig)
	}
	soon(t, grown("(a,k)", "", two, "1 2"), env, 1, api.ErrType)
	soon(t, grown("(a,k)", "", two, "(s j one,s r t)"), env, 1, api.ErrType)
	soon(t, grown("(1,2)", "", two, "(s j one,s r t)"), env, 1, api.ErrBig)
	// One link apart, with ends of their own.
	soon(t, grown("(a,l)", "", two, "1"), env, 1, api.ErrBig)
	// What is made equal stands within the other.
	soon(t, grown("(a,j)", "", two, "1"), env, 1, api.ErrType)
	soon(t, grown("(a,g)", "", two, "1"), env, 1, api.ErrType)
	soon(t, grown("(j,a)", "", two, "1"), env, 1, api.ErrType)
	soon(t, grown("(a,k)", "(s j k,", two, "1"), env, 1, api.ErrType)
	soon(t, grown("(1,2)", "(s j k,", two, "1"), env, 1, api.ErrBig)
	soon(t, grown("(a,l)", "", two, "s j r"), env, 1, api.ErrType)
}

func TestP4SameAgain(t *testing.T) {
	src := "fun x -> let f = fun y -> (x, y) in fun z -> (f z, (nil, (nil, f true)))"
	first, err := infer.Infer(src, usual(), 3)
	if want := "a -> b -> ((a, b), ([c], ([d], (a, bool))))"; first != want || err != nil {
		t.Fatalf("P4: %q, %v, want %q", first, err, want)
	}
	// Whatever has been asked in between, and however great the map is.
	env := usual()
	for k := range 150 {
		env["v"+strconv.Itoa(k)] = api.Typed{Type: lists(k%api.MaxSize, "a")}
		if again, err := infer.Infer(src, env, k%api.MaxFuel+1); again != first || err != nil {
			t.Fatalf("P4: %q, %v, want %q", again, err, first)
		}
		infer.Infer("v"+strconv.Itoa(k)+" 1", env, 1)
	}
}
