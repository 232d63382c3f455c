package types

import (
	"typer/api"
	"typer/tokens"
)

// reader: reads by the grammar of types.
type reader struct {
	*tokens.Reader
}

// Read: the type of a text; or api.ErrLong, *api.SyntaxError, api.ErrBig.
func Read(text string) (Type, error) {
	t, err := tokens.Whole(text, func(r *tokens.Reader) Type { return reader{r}.whole() })
	if err != nil {
		return nil, err
	}
	if Big(t) {
		return nil, api.ErrBig
	}
	return t, nil
}

// whole: a type, with the arrow that it may be the left side of.
func (r reader) whole() Type {
	from := r.one()
	if !r.Skips("->") {
		return from
	}
	return &Arrow{From: from, To: r.whole()}
}

// one: a type that no arrow stands in, but in brackets.
func (r reader) one() Type {
	switch {
	case r.Skips("int"):
		return &Basic{Text: "int"}
	case r.Skips("bool"):
		return &Basic{Text: "bool"}
	case r.Next.Kind == tokens.Word:
		return &Var{Name: r.Take()}
	case r.Skips("["):
		of := r.whole()
		r.Must("]")
		return &List{Of: of}
	}
	r.Must("(")
	return r.bracketed()
}

// bracketed: what stands behind '(': a pair, or a type that the brackets add nothing to.
func (r reader) bracketed() Type {
	left := r.whole()
	if !r.Skips(",") {
		r.Must(")")
		return left
	}
	right := r.whole()
	r.Must(")")
	return &Pair{Left: left, Right: right}
}
