package types

import (
	"math"
	"slices"
	"strings"
	"testing"
)

// doubled: a cell that is the pair of another with itself, which is the pair of a third with itself, and so on, so many times.
func doubled(cells *Cells, c *Cell, times int) *Cell {
	for range times {
		c = cells.Of(&Pair{Left: c, Right: c})
	}
	return c
}

// doubledText: that of doubled.
func doubledText(text string, times int) string {
	for range times {
		text = "(" + text + ", " + text + ")"
	}
	return text
}

func schemesOf(all ...Type) []Scheme {
	var schemes []Scheme
	for _, t := range all {
		schemes = append(schemes, Scheme{Type: t})
	}
	return schemes
}

// writes: Texts writes just these, if there may be as many bytes as they have; with one less it writes none.
func writes(t *testing.T, schemes []Scheme, want ...string) {
	t.Helper()
	length := int64(len(strings.Join(want, "")))
	for _, most := range []int64{length, length + 1, math.MaxInt32, math.MaxInt64} {
		if texts, ok := Texts(schemes, most); !ok || !slices.Equal(texts, want) {
			t.Errorf("P6: with at most %d bytes: %.200q, %v, want %.200q", most, texts, ok, want)
		}
	}
	for _, most := range []int64{length - 1, length / 2, 0} {
		if texts, ok := Texts(schemes, most); ok || texts != nil {
			t.Errorf("P6: with at most %d bytes, %d are too many: %.200q, %v", most, length, texts, ok)
		}
	}
}

func TestTextsOfWhatStandsOften(t *testing.T) {
	var cells Cells
	x, y := cells.Of(nil), cells.Of(nil)
	arrow := cells.Of(&Arrow{From: y, To: x})
	list := cells.Of(&List{Of: arrow})
	// Brackets are no part of what stands once more: they hang on where it stands.
	writes(t, schemesOf(&Arrow{From: arrow, To: arrow}), "(_a -> _b) -> _a -> _b")
	writes(t, schemesOf(&Arrow{From: arrow, To: &Arrow{From: arrow, To: &Pair{Left: arrow, Right: list}}}), "(_a -> _b) -> (_a -> _b) -> (_a -> _b, [_a -> _b])")
	writes(t, schemesOf(&Arrow{From: list, To: list}), "[_a -> _b] -> [_a -> _b]")
	// A cell that is the same as another is that.
	same := cells.Of(nil)
	if !Equal(same, list) {
		t.Fatal("not made equal")
	}
	writes(t, schemesOf(&Pair{Left: same, Right: list}, same), "([_a -> _b], [_a -> _b])", "[_a -> _b]")
	// What stands for any type is called anew in each scheme, what does not is called the same in all.
	a, b := &Var{Name: "9"}, &Var{Name: "7"}
	writes(t, schemesOf(&Pair{Left: a, Right: arrow}, &Pair{Left: &Pair{Left: x, Right: b}, Right: &Pair{Left: a, Right: b}}, arrow),
		"(a, _a -> _b)", "((_b, a), (b, a))", "_a -> _b")
}

func TestTextsOfGreatTypes(t *testing.T) {
	for times := range 18 {
		var cells Cells
		x, y := cells.Of(nil), cells.Of(nil)
		great, other := doubled(&cells, x, times), doubled(&cells, cells.Of(&Arrow{From: y, To: x}), times)
		writes(t, schemesOf(great), doubledText("_a", times))
		writes(t, schemesOf(&Var{Name: "1"}, other, great, x), "a", doubledText("_a -> _b", times), doubledText("_b", times), "_b")
		writes(t, schemesOf(&Pair{Left: great, Right: &Pair{Left: great, Right: other}}), "("+doubledText("_a", times)+", ("+doubledText("_a", times)+", "+doubledText("_b -> _a", times)+"))")
	}
}

// A text that is longer than could be counted is not begun, be it the first or the last of several.
func TestTextsOfTypesTooGreat(t *testing.T) {
	for _, times := range []int{29, 30, 31, 60, 61, 62, 63, 64, 65, 128, 1000} {
		var cells Cells
		x := cells.Of(nil)
		great := doubled(&cells, x, times)
		for _, schemes := range [][]Scheme{schemesOf(great), schemesOf(great, x), schemesOf(x, great), schemesOf(great, great), schemesOf(&List{Of: great})} {
			if texts, ok := Texts(schemes, math.MaxInt32); ok || texts != nil {
				t.Errorf("P6: doubled %d times: %.200q, %v", times, texts, ok)
			}
		}
	}
}
