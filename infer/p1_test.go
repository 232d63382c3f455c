package infer_test

import (
	"errors"
	"maps"
	"math"
	"strings"
	"testing"

	"typer/api"
	"typer/infer"
)

// oddTexts: texts that are no expressions, or hardly.
func oddTexts() []string {
	texts := []string{"", " ", "\n", "\x00", "\xff\xfe", "é", "(", ")", ",", "->", "[a]", "fun", "let rec", "x", "1", "(x, y)"}
	for _, piece := range []string{"(", ")", "x", "x ", "1", "\x00", "fun x->", "if ", "let x=", "let rec x=", "(1,"} {
		texts = append(texts, strings.Repeat(piece, api.MaxText/len(piece)), strings.Repeat(piece, 100000))
	}
	return texts
}

// one: is it a text without an error, or an error of P2 with the empty text?
func one(text string, err error) bool {
	var s *api.SyntaxError
	if err == nil {
		return text != ""
	}
	return text == "" && (errors.As(err, &s) || errors.Is(err, api.ErrLong) || errors.Is(err, api.ErrDeep))
}

func TestP1ShowOfAnyBytes(t *testing.T) {
	texts := oddTexts()
	for a := range 256 {
		texts = append(texts, string([]byte{byte(a)}))
		for b := range 256 {
			texts = append(texts, string([]byte{byte(a), byte(b)}))
		}
	}
	for _, src := range texts {
		text, err := infer.Show(src)
		if !one(text, err) {
			t.Fatalf("P1: Show(%.60q) = %q, %v", src, text, err)
		}
		again, err2 := infer.Show(src)
		if text != again || (err == nil) != (err2 == nil) {
			t.Fatalf("P1: Show(%.60q) answers %q, %v, then %q, %v", src, text, err, again, err2)
		}
	}
}

// An error that one call has told is not changed by another call.
func TestP1ErrorsAreTheCallers(t *testing.T) {
	var first, second *api.SyntaxError
	_, err := infer.Show("x )")
	if !errors.As(err, &first) {
		t.Fatalf("P1: %v", err)
	}
	first.At = 77
	_, err = infer.Show("x )")
	if !errors.As(err, &second) || second.At != 2 {
		t.Errorf("P1: %v, want a *SyntaxError at 2", err)
	}
}

func TestP1EveryCallEnds(t *testing.T) {
	env := map[string]api.Typed{"x": {Type: "int"}, "": {Type: "("}, "let": {Type: strings.Repeat("[", 1000)}}
	was := maps.Clone(env)
	each := func(names []string, round int, schemes []string) bool { return true }
	for _, src := range oddTexts() {
		infer.Canon(src)
		infer.Instance(src, "int")
		infer.Instance("a", src)
		for _, fuel := range []int{math.MinInt, -1, 0, 1, api.MaxFuel, api.MaxFuel + 1, math.MaxInt} {
			infer.Infer(src, env, fuel)
			infer.Infer(src, nil, fuel)
			infer.Watch(src, env, fuel, each)
			infer.Watch(src, nil, fuel, nil)
		}
		if !maps.Equal(env, was) {
			t.Fatalf("P1: the map has changed at %.60q", src)
		}
	}
}
