package expr

import (
	"slices"

	"typer/api"
	"typer/tokens"
)

// reader: reads by the grammar of expressions.
type reader struct {
	*tokens.Reader
}

// Read: the expression of a text; or api.ErrLong, *api.SyntaxError, api.ErrDeep.
func Read(text string) (Exp, error) {
	e, err := tokens.Whole(text, func(r *tokens.Reader) Exp { return reader{r}.exp() })
	if err != nil {
		return nil, err
	}
	// What is wrong in the text is told ahead of how deep it is.
	if e.Depth() > api.MaxDepth {
		return nil, api.ErrDeep
	}
	return e, nil
}

func (r reader) exp() Exp {
	switch {
	case r.Skips("fun"):
		return r.fun()
	case r.Skips("if"):
		return r.choice()
	case r.Skips("let"):
		if r.Skips("rec") {
			return r.letRec()
		}
		return r.let()
	}
	return r.applied()
}

// fun: what stands behind 'fun'.
func (r reader) fun() Exp {
	param := r.name()
	r.Must("->")
	body := r.exp()
	return &Fun{part: above(body), Param: param, Body: body}
}

// choice: what stands behind 'if'.
func (r reader) choice() Exp {
	cond := r.exp()
	r.Must("then")
	yes := r.exp()
	r.Must("else")
	no := r.exp()
	return &If{part: above(cond, yes, no), Cond: cond, Yes: yes, No: no}
}

// let: what stands behind 'let', if that is no 'rec'.
func (r reader) let() Exp {
	bind := r.bind()
	r.Must("in")
	body := r.exp()
	return &Let{part: above(bind.Value, body), Bind: bind, Body: body}
}

// letRec: what stands behind 'let' 'rec'.
func (r reader) letRec() Exp {
	group := []Bind{r.bind()}
	for r.Skips("and") {
		if r.nextIsNameOf(group) {
			r.Refuse()
		}
		group = append(group, r.bind())
	}
	r.Must("in")
	body := r.exp()
	below := []Exp{body}
	for _, b := range group {
		below = append(below, b.Value)
	}
	return &LetRec{part: above(below...), Group: group, Body: body}
}

// nextIsNameOf: does a name of the group stand next?
func (r reader) nextIsNameOf(group []Bind) bool {
	return slices.ContainsFunc(group, func(b Bind) bool { return b.Name == r.Next.Text })
}

// bind: a name, '=' and what it is.
func (r reader) bind() Bind {
	name := r.name()
	r.Must("=")
	return Bind{Name: name, Value: r.exp()}
}

// applied: an atom, and those behind it that it is applied to, one by one.
func (r reader) applied() Exp {
	e := r.atom()
	for r.nextIsAtom() {
		arg := r.atom()
		e = &Apply{part: above(e, arg), Fun: e, Arg: arg}
	}
	return e
}

// nextIsAtom: can what stands next begin an atom?
func (r reader) nextIsAtom() bool {
	return r.nextIsName() || r.Next.Kind == tokens.Number || r.Next.Text == "("
}

func (r reader) atom() Exp {
	switch {
	case r.nextIsName():
		at := r.Next.At
		return &Name{part: above(), Text: r.Take(), At: at}
	case r.Next.Kind == tokens.Number:
		return &Number{part: above(), Text: r.Take()}
	}
	r.Must("(")
	return r.bracketed()
}

// bracketed: what stands behind '(': a pair, or an expression that the brackets add nothing to.
func (r reader) bracketed() Exp {
	left := r.exp()
	if !r.Skips(",") {
		r.Must(")")
		return left
	}
	right := r.exp()
	r.Must(")")
	return &Pair{part: above(left, right), Left: left, Right: right}
}

// name: takes a name.
func (r reader) name() string {
	if !r.nextIsName() {
		r.Refuse()
	}
	return r.Take()
}

func (r reader) nextIsName() bool {
	return r.Next.Kind == tokens.Word && !isKeyword(r.Next.Text)
}

// IsName: is the text a name, and nothing beside it?
func IsName(text string) bool {
	first := tokens.Next(text, 0)
	return first.Kind == tokens.Word && first.Text == text && !isKeyword(text)
}

// isKeyword: is the word one of those that are no names?
func isKeyword(word string) bool {
	switch word {
	case "fun", "let", "rec", "and", "in", "if", "then", "else":
		return true
	}
	return false
}
