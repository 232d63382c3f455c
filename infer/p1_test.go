package infer_test

import (
	"errors"
	"maps"
	"math"
	"strings"
	"testing"
	"unsafe"

	"typer/api"
	"typer/infer"
)

// oddTexts: texts that are no expressions, or hardly.
func oddTexts() []string {
	texts := []string{"", " ", "\n", "\x00", "\xff\xfe", "é", "(", ")", ",", "->", "[a]", "[", "]", "a ->", "[int] -> bool", "fun", "let rec", "x", "1", "(x, y)"}
	for _, piece := range []string{"(", ")", "x", "x ", "1", "\x00", "fun x->", "if ", "let x=", "let rec x=", "(1,", "[", "[a", "a->", "(a,", "]"} {
		texts = append(texts, strings.Repeat(piece, api.MaxText/len(piece)), strings.Repeat(piece, 100000))
	}
	return texts
}

// told: is it an error that reading a text may tell?
func told(err error) bool {
	var s *api.SyntaxError
	var u *api.UnboundError
	return errors.As(err, &s) || errors.As(err, &u) || errors.Is(err, api.ErrLong) || errors.Is(err, api.ErrDeep) || errors.Is(err, api.ErrBig)
}

// inferred: Infer, as a call of one text.
func inferred(src string) (string, error) { return infer.Infer(src, nil, api.MaxFuel) }

// ofEnv: likewise, of the type that a name has.
func ofEnv(typ string) (string, error) {
	return infer.Infer("x", map[string]api.Typed{"x": {Type: typ}}, api.MaxFuel)
}

// steady: does the call answer a text without an error, or an error with the empty text, and the same again?
func steady(call func(string) (string, error), of string) bool {
	text, err := call(of)
	again, err2 := call(of)
	if text != again || (err == nil) != (err2 == nil) {
		return false
	}
	return err == nil && text != "" || text == "" && told(err)
}

func TestP1AnyBytes(t *testing.T) {
	texts := oddTexts()
	for a := range 256 {
		texts = append(texts, string([]byte{byte(a)}))
		for b := range 256 {
			texts = append(texts, string([]byte{byte(a), byte(b)}))
		}
	}
	for _, text := range texts {
		if !steady(infer.Show, text) {
			got, err := infer.Show(text)
			t.Fatalf("P1: Show(%.60q) = %q, %v", text, got, err)
		}
		if !steady(infer.Canon, text) {
			got, err := infer.Canon(text)
			t.Fatalf("P1: Canon(%.60q) = %q, %v", text, got, err)
		}
		if !steady(inferred, text) {
			got, err := inferred(text)
			t.Fatalf("P1: Infer(%.60q) = %q, %v", text, got, err)
		}
		if !steady(ofEnv, text) {
			got, err := ofEnv(text)
			t.Fatalf("P1: Infer(x) with x: %.60q = %q, %v", text, got, err)
		}
		if m, err := infer.Instance(text, "int"); (m == nil) == (err == nil) || err != nil && !told(err) && !errors.Is(err, api.ErrNot) {
			t.Fatalf("P1: Instance(%.60q, int) = %v, %v", text, m, err)
		}
		if m, err := infer.Instance("a", text); (m == nil) == (err == nil) || err != nil && !told(err) {
			t.Fatalf("P1: Instance(a, %.60q) = %v, %v", text, m, err)
		}
	}
}

// An error that one call has told is not changed by another call.
func TestP1ErrorsAreTheCallers(t *testing.T) {
	for _, call := range []func() error{
		func() error { _, err := infer.Show("x )"); return err },
		func() error { _, err := infer.Canon("x )"); return err },
		func() error { _, err := infer.Instance("x )", "a"); return err },
		func() error { _, err := infer.Instance("a", "x )"); return err },
		func() error { _, err := inferred("x )"); return err },
		func() error { _, err := ofEnv("x )"); return err },
	} {
		var first, second *api.SyntaxError
		err := call()
		if !errors.As(err, &first) {
			t.Fatalf("P1: %v", err)
		}
		first.At = 77
		if err = call(); !errors.As(err, &second) || second.At != 2 {
			t.Errorf("P1: %v, want a *SyntaxError at 2", err)
		}
	}
	var u *api.UnboundError
	for range 2 {
		if _, err := inferred("1 y"); !errors.As(err, &u) || *u != (api.UnboundError{At: 2, Name: "y"}) {
			t.Errorf("P1: %v, want an *UnboundError of y at 2", err)
		}
		*u = api.UnboundError{At: 77, Name: "mine"}
	}
	var e *api.EnvError
	for range 2 {
		if _, err := ofEnv(strings.Repeat(" ", api.MaxText+1)); !errors.As(err, &e) || *e != (api.EnvError{Name: "x", Why: api.ErrLong}) {
			t.Errorf("P1: %v, want an *EnvError of x", err)
		}
		*e = api.EnvError{Name: "mine"}
	}
}

func TestP1EveryCallEnds(t *testing.T) {
	env := map[string]api.Typed{"x": {Type: "int"}, "": {Type: "("}, "let": {Type: strings.Repeat("[", 1000)}}
	was := maps.Clone(env)
	each := func(names []string, round int, schemes []string) bool { return true }
	for _, src := range oddTexts() {
		infer.Canon(src)
		infer.Instance(src, "int")
		infer.Instance("a", src)
		for _, fuel := range []int{math.MinInt, -1, 0, 1, api.MaxFuel, api.MaxFuel + 1, math.MaxInt} {
			infer.Infer(src, env, fuel)
			infer.Infer(src, nil, fuel)
			infer.Watch(src, env, fuel, each)
			infer.Watch(src, nil, fuel, nil)
		}
		if !maps.Equal(env, was) {
			t.Fatalf("P1: the map has changed at %.60q", src)
		}
	}
}

// Whatever is answered of expressions with let rec, it is a text or an error.
func TestP1LetRec(t *testing.T) {
	for _, src := range []string{"let rec f = f in f", "let rec f = fun x -> f in f", "fun y -> let rec f = y and g = f in (f, g)", "(let rec f = 1 in f, 1 2)", "let rec f = 1 2 in f", "let x = let rec f = f in f in 1"} {
		for fuel := 1; fuel <= api.MaxFuel; fuel++ {
			if text, err := infer.Infer(src, nil, fuel); (text == "") == (err == nil) {
				t.Errorf("P1: Infer(%q) = %q, %v", src, text, err)
			}
		}
	}
}

// shares: does the text hold memory of the other?
func shares(text, other string) bool {
	at, from := uintptr(unsafe.Pointer(unsafe.StringData(text))), uintptr(unsafe.Pointer(unsafe.StringData(other)))
	return at < from+uintptr(len(other)) && from < at+uintptr(len(text))
}

func TestP1TextsAreTheCallers(t *testing.T) {
	// Two bytes or more: a text of one is often the same memory anyway.
	src, general, special := strings.Clone("xy"), strings.Clone("ab -> cd -> ef"), strings.Clone("int -> xy -> [zz]")
	if text, _ := infer.Show(src); text != "xy" || shares(text, src) {
		t.Errorf("P1: Show(%q) shares memory with it", src)
	}
	if text, _ := infer.Canon(special); shares(text, special) {
		t.Errorf("P1: Canon(%q) shares memory with it", special)
	}
	var u *api.UnboundError
	if _, err := inferred(src); !errors.As(err, &u) || shares(u.Name, src) {
		t.Errorf("P1: the *UnboundError of Infer(%q) shares memory with it", src)
	}
	var e *api.EnvError
	for _, name := range []string{strings.Clone("let"), strings.Clone("xy")} {
		if _, err := infer.Infer("1", map[string]api.Typed{name: {Type: "("}}, 1); !errors.As(err, &e) || shares(e.Name, name) {
			t.Errorf("P1: the *EnvError of %q shares memory with it", name)
		}
	}
	if text, _ := infer.Infer(src, map[string]api.Typed{"xy": {Type: special}}, 1); text == "" || shares(text, special) {
		t.Errorf("P1: Infer(%q) shares memory with %q", src, special)
	}
	m, err := infer.Instance(general, special)
	if len(m) != 3 || err != nil {
		t.Fatal(m, err)
	}
	for name, typed := range m {
		if shares(name, general) || shares(typed.Type, special) {
			t.Errorf("P1: %s: %q shares memory with what was handed in", name, typed.Type)
		}
	}
}
