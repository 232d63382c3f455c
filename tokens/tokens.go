// Package tokens cuts the texts of expressions and of types into tokens.
package tokens

import (
	"strings"

	"typer/api"
)

// Kind: what a token is.
type Kind int

// The kinds of tokens.
const (
	End  Kind = iota // the text has no more
	None             // what stands there is no token
	Word             // a name or a keyword: the two grammars have other keywords
	Number
	Sign
)

// Token: one token, and the place where it begins. Of End and None the text is empty.
type Token struct {
	Kind Kind
	Text string
	At   int
}

// Behind: the place right behind the token.
func (t Token) Behind() int { return t.At + len(t.Text) }

// Next: the first token of the text from a place on.
func Next(text string, from int) Token {
	at := from + run(text[from:], isBlank)
	if at == len(text) {
		return Token{Kind: End, At: at}
	}
	kind, size := measure(text[at:])
	return Token{Kind: kind, Text: text[at : at+size], At: at}
}

// measure: the kind and the length of the token at the beginning of rest, which is not empty.
func measure(rest string) (Kind, int) {
	switch first := rest[0]; {
	case isLetter(first):
		return bounded(Word, run(rest, isLetterOrDigit))
	case isDigit(first):
		return bounded(Number, run(rest, isDigit))
	case strings.HasPrefix(rest, "->"):
		return Sign, len("->")
	case strings.IndexByte("=(),[]", first) >= 0:
		return Sign, 1
	}
	return None, 0
}

// bounded: a longer run is no token at all; it is not cut into shorter ones.
func bounded(kind Kind, size int) (Kind, int) {
	if size > api.MaxName {
		return None, 0
	}
	return kind, size
}

// run: how many bytes at the beginning of text are of one sort.
func run(text string, of func(byte) bool) int {
	n := 0
	for n < len(text) && of(text[n]) {
		n++
	}
	return n
}

func isBlank(c byte) bool { return c == ' ' || c == '\n' }

func isLetter(c byte) bool { return 'a' <= c && c <= 'z' }

func isDigit(c byte) bool { return '0' <= c && c <= '9' }

func isLetterOrDigit(c byte) bool { return isLetter(c) || isDigit(c) }
