package tokens

import (
	"slices"
	"strings"
	"testing"

	"typer/api"
)

// all: the tokens of a text, up to the first that is none, or the end.
func all(text string) []Token {
	list := []Token{Next(text, 0)}
	for last := list[0]; last.Kind != End && last.Kind != None; last = list[len(list)-1] {
		list = append(list, Next(text, last.Behind()))
	}
	return list
}

func TestTokens(t *testing.T) {
	name, number := strings.Repeat("z", api.MaxName), strings.Repeat("9", api.MaxName)
	for _, c := range []struct {
		text string
		want []Token
	}{
		{"", []Token{{End, "", 0}}},
		{" \n \n", []Token{{End, "", 4}}},
		{"a0z9", []Token{{Word, "a0z9", 0}, {End, "", 4}}},
		{"fun1 in", []Token{{Word, "fun1", 0}, {Word, "in", 5}, {End, "", 7}}},
		{"12ab", []Token{{Number, "12", 0}, {Word, "ab", 2}, {End, "", 4}}},
		{"->=(),[]", []Token{{Sign, "->", 0}, {Sign, "=", 2}, {Sign, "(", 3}, {Sign, ")", 4}, {Sign, ",", 5}, {Sign, "[", 6}, {Sign, "]", 7}, {End, "", 8}}},
		{name, []Token{{Word, name, 0}, {End, "", api.MaxName}}},
		{" " + name + "1", []Token{{None, "", 1}}},
		{number, []Token{{Number, number, 0}, {End, "", api.MaxName}}},
		{number + "a", []Token{{Number, number, 0}, {Word, "a", api.MaxName}, {End, "", api.MaxName + 1}}},
		{" " + number + "1", []Token{{None, "", 1}}},
		{"a- >", []Token{{Word, "a", 0}, {None, "", 1}}},
		{"->>", []Token{{Sign, "->", 0}, {None, "", 2}}},
		{"a\t", []Token{{Word, "a", 0}, {None, "", 1}}},
		{"aB", []Token{{Word, "a", 0}, {None, "", 1}}},
		{"\xff", []Token{{None, "", 0}}},
	} {
		if got := all(c.text); !slices.Equal(got, c.want) {
			t.Errorf("tokens of %q: %v, want %v", c.text, got, c.want)
		}
	}
}
