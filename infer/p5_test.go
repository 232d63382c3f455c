package infer_test

import (
	"errors"
	"strconv"
	"strings"
	"testing"

	"typer/api"
)

// needs: Infer answers that type with so many rounds and with more; with fewer they are not enough.
func needs(t *testing.T, src string, rounds int, want string) {
	t.Helper()
	for fuel := 1; fuel <= api.MaxFuel; fuel++ {
		typ, err := infers(t, src, usual(), fuel)
		if fuel < rounds {
			if !errors.Is(err, api.ErrFuel) {
				t.Errorf("P5: Infer(%q) with a fuel of %d: %q, %v, want %v", src, fuel, typ, err, api.ErrFuel)
			}
		} else if typ != want || err != nil {
			t.Errorf("P5: Infer(%q) with a fuel of %d: %q, %v, want %q", src, fuel, typ, err, want)
		}
	}
}

// fails: Infer answers that error from so many rounds on; fewer are not enough to meet it.
func fails(t *testing.T, src string, env map[string]api.Typed, rounds int, want error) {
	t.Helper()
	for fuel := 1; fuel <= api.MaxFuel; fuel++ {
		err := api.ErrFuel
		if fuel >= rounds {
			err = want
		}
		if typ, got := infers(t, src, env, fuel); !errors.Is(got, err) {
			t.Errorf("P5: Infer(%q) with a fuel of %d: %q, %v, want %v", src, fuel, typ, got, err)
		}
	}
}

// never: no number of rounds is enough.
func never(t *testing.T, src string) {
	t.Helper()
	fails(t, src, usual(), 1, api.ErrFuel)
}

func TestP5OneName(t *testing.T) {
	needs(t, "let rec x = x in x", 1, "a")
	needs(t, "let rec x = x in 1", 1, "int")
	needs(t, "let rec x = x in (x, x)", 1, "(a, b)")
	needs(t, "let rec x = x 1 in x", 1, "a")
	needs(t, "let rec f = 1 in f", 2, "int")
	needs(t, "let rec f = nil in f", 2, "[a]")
	needs(t, "let rec f = 1 in true", 2, "bool")
	needs(t, "let rec f = fun x -> x in (f 1, f true)", 2, "(int, bool)")
	needs(t, "let rec f = fun x -> f x in f", 2, "a -> b")
	needs(t, "let rec f = fun x -> f (f x) in f", 2, "a -> b")
	needs(t, "let rec f = fun x -> if true then x else f x in f", 2, "a -> a")
	needs(t, "let rec f = fun x -> fun y -> if true then x else f y x in f", 3, "a -> a -> a")
	needs(t, "let rec f = fun x -> add 1 (f x) in f", 2, "a -> int")
	needs(t, "let rec f = cons 1 f in f", 2, "[int]")
	needs(t, "let rec f = cons (hd f) f in f", 2, "[a]")
	needs(t, "let rec f = (1, fst f) in f", 3, "(int, int)")
	needs(t, "let rec f = (fst (snd f), (true, fst f)) in f", 4, "(bool, (bool, bool))")
	never(t, "let rec f = fun x -> f in f")
	never(t, "let rec f = cons f nil in f")
	never(t, "let rec f = fun x -> fun y -> f in 1")
}

// What no other rule than Mycroft's can type: a name that is used at many types in its own group.
func TestP5ManyTypes(t *testing.T) {
	needs(t, "let rec f = fun x -> f (x, 1) in f", 2, "a -> b")
	needs(t, "let rec f = fun x -> if true then x else fst (f (x, x)) in f", 2, "a -> a")
	needs(t, "let rec f = fun x -> if true then 0 else f (cons x nil) in (f 1, f true)", 2, "(int, int)")
	needs(t, "let rec f = fun x -> if true then 0 else add (f 1) (f true) in f", 2, "a -> int")
	needs(t, "let rec f = fun x -> if eq (f 1, f true) (1, true) then x else x in f", 2, "a -> a")
	needs(t, "let rec f = fun x -> 1 and g = fun y -> (f y, f true) in g", 3, "a -> (int, int)")
	needs(t, "let rec i = fun x -> x and p = (i 1, i true) in (p, i)", 3, "((int, bool), a -> a)")
	needs(t, "let rec f = fun x -> g (x, x) and g = fun y -> f y in g", 2, "a -> b")
	needs(t, "let rec f = fun x -> g (x, x) and g = fun y -> if true then 1 else f (y, y) in (f 1, f true)", 3, "(int, int)")
	// A name that fun gives is used at one type, there as anywhere.
	fails(t, "let rec f = fun x -> (x 1, x true) in f", usual(), 1, api.ErrType)
	fails(t, "let rec f = fun g -> (g 1, (g true, f)) in f", usual(), 1, api.ErrType)
}

func TestP5Groups(t *testing.T) {
	needs(t, "let rec f = g and g = f in (f, g)", 1, "(a, b)")
	needs(t, "let rec f = g and g = h and h = 1 in (f, g)", 4, "(int, int)")
	needs(t, "let rec h = 1 and g = h and f = g in (f, g)", 4, "(int, int)")
	needs(t, "let rec f = g and g = 1 in f", 3, "int")
	needs(t, "let rec f = 1 and g = true in (f, g)", 2, "(int, bool)")
	needs(t, "let rec f = (g, 1) and g = 2 in f", 3, "(int, int)")
	needs(t, "let rec f = fun x -> g x and g = fun y -> if true then y else f y in f", 3, "a -> a")
	needs(t, "let rec f = fun x -> fun y -> if true then x else g y x and g = fun u -> fun v -> f v u in (f, g)", 3, "(a -> b -> a, c -> d -> d)")
	// All rounds are told apart by the scheme of one name alone, be it the first or the last.
	needs(t, "let rec f = 1 and g = 2 and h = (1, fst h) in 1", 3, "int")
	needs(t, "let rec h = (1, fst h) and f = 1 and g = 2 in 1", 3, "int")
	// Inner names hide outer ones, those of a map as well.
	needs(t, "let rec true = 1 and add = true in (true, add)", 3, "(int, int)")
	needs(t, "let f = 1 in let rec f = fun x -> f x in f", 2, "a -> b")
	needs(t, "let rec f = fun f -> f in f 1", 2, "int")
	needs(t, "(let rec add = 1 in add, add 1 2)", 2, "(int, int)")
	needs(t, "let rec f = let f = 1 in f in f", 2, "int")
	// Behind the group they stand for what they stood for.
	needs(t, "(let rec true = 1 and add = 2 in add, (true, add))", 2, "(int, (bool, int -> int -> int))")
	needs(t, "fun f -> fun g -> (let rec g = 1 and f = true in f, (f, g))", 2, "a -> b -> (bool, (a, b))")
	needs(t, "let rec f = (let rec g = 1 and h = 2 in g) and g = true and h = g in (g, h)", 3, "(bool, bool)")
	// As many names as the text has room for.
	src := "let rec n0=n0"
	for k := 1; k < 27; k++ {
		n := "n" + strconv.Itoa(k)
		src += " and " + n + "=n0"
	}
	needs(t, src+" in n9", 1, "a")
}

// chain: n names, each of which is the next one; the last is 1. Each round finds the type of one more, and one round finds nothing new.
func chain(n int) string {
	src := "let rec "
	for k := 1; k < n; k++ {
		src += "n" + strconv.Itoa(k) + " = n" + strconv.Itoa(k+1) + " and "
	}
	return src + "n" + strconv.Itoa(n) + " = 1 in n1"
}

func TestP5Fuel(t *testing.T) {
	for n := 1; n < api.MaxFuel; n++ {
		needs(t, chain(n), n+1, "int")
	}
	never(t, chain(api.MaxFuel))
	never(t, chain(api.MaxFuel+1))
	for _, fuel := range []int{0, -1, api.MaxFuel + 1} {
		if typ, err := infers(t, chain(2), usual(), fuel); !errors.Is(err, api.ErrArg) {
			t.Errorf("P5: with a fuel of %d: %q, %v", fuel, typ, err)
		}
	}
}

func TestP5Nested(t *testing.T) {
	// Within a body.
	needs(t, "let rec f = let rec g = 1 in g in f", 2, "int")
	needs(t, "let rec f = let rec g = f in g in f", 1, "a")
	needs(t, "let rec f = let rec g = (f, 1) in g in 1", api.MaxFuel+1, "")
	needs(t, "let rec f = g and g = (let rec h = k and k = 1 in h) in f", 3, "int")
	needs(t, "let rec f = g and g = (let rec h = k and k = l and l = 1 in h) in f", 4, "int")
	needs(t, "let rec f = fun x -> let rec g = fun y -> if true then x else f y 1 in x in f", 2, "a -> a")
	// Behind in.
	needs(t, "let rec f = 1 in let rec g = f in g", 2, "int")
	needs(t, "let rec f = fun x -> x in let rec g = fun x -> (f 1, f true) in g", 2, "a -> (int, bool)")
	needs(t, "let rec f = g and g = 1 in let rec h = (fst (snd h), (f, fst h)) in h", 4, "(int, (int, int))")
	// Beside.
	needs(t, "(let rec f = 1 in f, let rec f = g and g = true in f)", 3, "(int, bool)")
	needs(t, "let x = (let rec f = fun x -> x in f) in (x 1, x true)", 2, "(int, bool)")
	needs(t, "(let rec f = fun x -> f x in f) (let rec g = 1 in g)", 2, "a")
	needs(t, "if (let rec f = true in f) then (let rec f = 1 in f) else (let rec f = f in f)", 2, "int")
	// All rounds of all groups together may be more than fuel.
	needs(t, strings.Repeat("let rec f = ", 9)+"1"+strings.Repeat(" in f", 9), 2, "int")
	needs(t, strings.Repeat("let rec f = f in ", 15)+"f", 1, "a")
	// An inner group that needs too many rounds, in a round of the outer.
	never(t, "let rec f = 1 and g = let rec h = fun x -> h in h in f")
	fails(t, "let rec f = 1 and g = let rec h = f 1 in h in f", usual(), 2, api.ErrType)
}

func TestP5OuterVariables(t *testing.T) {
	needs(t, "fun y -> let rec f = fun x -> if true then y else f (add y x) in f", 2, "int -> int -> int")
	needs(t, "fun z -> let rec f = z and g = fun x -> f in (f, g)", 3, "a -> (a, b -> a)")
	needs(t, "fun y -> let rec f = y in (f, f)", 2, "a -> (a, a)")
	needs(t, "fun y -> let rec f = fun x -> (x, y) in (f 1, f true)", 2, "a -> ((int, a), (bool, a))")
	needs(t, "fun y -> let rec f = y in (add f 1, y)", 2, "int -> (int, int)")
	needs(t, "fun y -> let z = y in let rec f = fun x -> (x, z) in (f 1, f true)", 2, "a -> ((int, a), (bool, a))")
	fails(t, "fun y -> let rec f = y in (f 1, f true)", usual(), 2, api.ErrType)
	fails(t, "fun y -> let rec f = fun x -> if true then x else y in (f 1, f true)", usual(), 2, api.ErrType)
	// Outer is who stands outside of the group: its own names are not.
	needs(t, "let rec f = fun x -> g and g = nil in (cons 1 (f 1), cons true (f 1))", 3, "([int], [bool])")
	// What a round finds out is kept for the next, and behind.
	needs(t, "fun y -> let rec f = fun x -> if f x then y else y in f", 2, "bool -> a -> bool")
	needs(t, "fun y -> (let rec f = fun x -> add y x in f, y)", 2, "int -> (int -> int, int)")
	fails(t, "fun y -> let rec f = fun x -> if f x then y else y in f 1 1", usual(), 2, api.ErrType)
	fails(t, "fun y -> let rec f = fun x -> if f x then y else y in add y 1", usual(), 2, api.ErrType)
	// It stands within itself only with what the round ahead has found.
	fails(t, "fun y -> let rec f = y and g = eq f (f, f) in g", usual(), 2, api.ErrType)
	fails(t, "fun y -> let rec f = y and g = f y in g", usual(), 2, api.ErrType)
}

// Schemes of two rounds are the same, if what has been found out since the first makes them so.
func TestP5SameByThen(t *testing.T) {
	// f's scheme is _a in the first round; that this is int is found out in the second.
	needs(t, "fun y -> let rec f = y and g = fun x -> add f 1 in g", 2, "int -> a -> int")
	needs(t, "fun y -> let rec g = fun x -> add f 1 and f = y in g", 2, "int -> a -> int")
	needs(t, "fun y -> let rec f = (1, y) and g = if true then 1 else snd f in g", 2, "int -> int")
	needs(t, "fun y -> let rec f = cons y nil and g = eq (hd f) (1, true) in f", 2, "(int, bool) -> [(int, bool)]")
	// What r is stems from y in the second round, from z in the third: both are int.
	needs(t, "fun y -> fun z -> let u = (add y 1, add z 1) in let rec f = fun x -> if true then x else k and k = 1 and h = j and j = z and r = if true then f y else h in r", 3, "int -> int -> int")
	// a -> b is not a -> a, nor the other way round; nor is _a -> _b.
	needs(t, "let rec f = fun x -> fun y -> if true then (x, y) else f y x in f", 3, "a -> a -> (a, a)")
	needs(t, "fun v -> fun w -> let rec f = (v, w) and g = if true then f else (snd f, fst f) in g", 3, "a -> a -> (a, a)")
	needs(t, "fun v -> let rec f = fun x -> x and g = fun x -> if true then v else h and h = fun x -> f x in f", 3, "(a -> a) -> b -> b")
}

func TestP5Errors(t *testing.T) {
	fails(t, "let rec f = 1 2 in f", usual(), 1, api.ErrType)
	fails(t, "let rec f = f and g = 1 2 in f", usual(), 1, api.ErrType)
	fails(t, "let rec f = 1 and g = f 2 in g", usual(), 2, api.ErrType)
	fails(t, "let rec f = g and g = h and h = 1 and k = f 2 in k", usual(), 4, api.ErrType)
	fails(t, "let rec f = fun x -> x x in f", usual(), 1, api.ErrType)
	fails(t, "let rec f = 1 in f 2", usual(), 2, api.ErrType)
	fails(t, "let rec f = 1 in 1 2", usual(), 2, api.ErrType)
	fails(t, "(1 2, let rec f = fun x -> f in f)", usual(), 1, api.ErrType)
	never(t, "(let rec f = fun x -> f in f, 1 2)")
	// Each round doubles it: the sixth is too big.
	fails(t, "let rec f = (f, f) in f", usual(), 6, api.ErrBig)
	fails(t, "let rec f = (f, f) in 1", usual(), 6, api.ErrBig)
	// The second round's g is the one that is too big.
	fails(t, "let rec f = b and g = (f, f) in 1", sized(60), 2, api.ErrBig)
	fails(t, "let rec f = b in (f, f)", sized(60), 2, api.ErrBig)
	fails(t, "let rec f = b and g = (f, fst g) in 1", sized(60), 3, api.ErrBig)
	fails(t, "let rec f = (b, b) in 1", sized(60), 1, api.ErrBig)
	// In order of the bodies.
	fails(t, "let rec f = (b, b) and g = 1 2 in 1", sized(60), 1, api.ErrBig)
	fails(t, "let rec g = 1 2 and f = (b, b) in 1", sized(60), 1, api.ErrType)
	fails(t, "let rec k = b and f = (k, k) and g = 1 and h = g 2 in 1", sized(60), 2, api.ErrBig)
	fails(t, "let rec k = b and g = 1 and h = g 2 and f = (k, k) in 1", sized(60), 2, api.ErrType)
	// Stray names are told ahead of all.
	for _, src := range []string{"let rec f = 1 2 in y", "let rec f = fun x -> f in y", "let rec f = (let rec g = g in y) in y", "let rec f = f and g = y in g"} {
		unbound(t, src, usual(), strings.IndexByte(src, 'y'), "y")
	}
}
