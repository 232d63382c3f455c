package tokens

import (
	"errors"
	"slices"
	"strings"
	"testing"

	"typer/api"
)

// all: the tokens of a text, up to the first that is none, or the end.
func all(text string) []Token {
	list := []Token{Next(text, 0)}
	for last := list[0]; last.Kind != End && last.Kind != None; last = list[len(list)-1] {
		list = append(list, Next(text, last.Behind()))
	}
	return list
}

func TestTokens(t *testing.T) {
	name, number := strings.Repeat("z", api.MaxName), strings.Repeat("9", api.MaxName)
	for _, c := range []struct {
		text string
		want []Token
	}{
		{"", []Token{{End, "", 0}}},
		{" \n \n", []Token{{End, "", 4}}},
		{"a0z9", []Token{{Word, "a0z9", 0}, {End, "", 4}}},
		{"fun1 in", []Token{{Word, "fun1", 0}, {Word, "in", 5}, {End, "", 7}}},
		{"12ab", []Token{{Number, "12", 0}, {Word, "ab", 2}, {End, "", 4}}},
		{"->=(),[]", []Token{{Sign, "->", 0}, {Sign, "=", 2}, {Sign, "(", 3}, {Sign, ")", 4}, {Sign, ",", 5}, {Sign, "[", 6}, {Sign, "]", 7}, {End, "", 8}}},
		{name, []Token{{Word, name, 0}, {End, "", api.MaxName}}},
		{" " + name + "1", []Token{{None, "", 1}}},
		{number, []Token{{Number, number, 0}, {End, "", api.MaxName}}},
		{number + "a", []Token{{Number, number, 0}, {Word, "a", api.MaxName}, {End, "", api.MaxName + 1}}},
		{" " + number + "1", []Token{{None, "", 1}}},
		{"a- >", []Token{{Word, "a", 0}, {None, "", 1}}},
		{"->>", []Token{{Sign, "->", 0}, {None, "", 2}}},
		{"a\t", []Token{{Word, "a", 0}, {None, "", 1}}},
		{"aB", []Token{{Word, "a", 0}, {None, "", 1}}},
		{"\xff", []Token{{None, "", 0}}},
	} {
		if got := all(c.text); !slices.Equal(got, c.want) {
			t.Errorf("tokens of %q: %v, want %v", c.text, got, c.want)
		}
	}
}

// words: takes words, as far as they stand.
func words(r *Reader) []string {
	var list []string
	for r.Next.Kind == Word {
		list = append(list, r.Take())
	}
	return list
}

func TestWhole(t *testing.T) {
	if list, err := Whole(" let it be ", words); !slices.Equal(list, []string{"let", "it", "be"}) || err != nil {
		t.Errorf("all of a text: %v, %v", list, err)
	}
	var s *api.SyntaxError
	if list, err := Whole("let it (be)", words); list != nil || !errors.As(err, &s) || s.At != 7 {
		t.Errorf("a part of a text: %v, %v", list, err)
	}
	if list, err := Whole(strings.Repeat(" ", api.MaxText), words); list != nil || err != nil {
		t.Errorf("a text of MaxText bytes: %v, %v", list, err)
	}
	if list, err := Whole(strings.Repeat(" ", api.MaxText+1), words); list != nil || !errors.Is(err, api.ErrLong) {
		t.Errorf("a text of one byte more: %v, %v", list, err)
	}
}

// A fault of the program is not told as one of the text.
func TestWholePassesOtherPanicsOn(t *testing.T) {
	defer func() {
		if p := recover(); p != "a fault" {
			t.Errorf("recovered %v", p)
		}
	}()
	Whole("x", func(r *Reader) int { panic("a fault") })
}
