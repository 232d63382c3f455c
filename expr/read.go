package expr

import (
	"slices"

	"typer/api"
	"typer/tokens"
)

// reader: a text, and its first token that has not been taken yet. It looks at no token further on, so that the first one that is wrong is the one that is told.
type reader struct {
	text string
	next tokens.Token
}

// refusal: what a reader panics with. A type of its own keeps it apart from panics that are faults of the program.
type refusal struct {
	err error
}

// Read: the expression of a text; or api.ErrLong, *api.SyntaxError, api.ErrDeep.
func Read(text string) (e Exp, err error) {
	if len(text) > api.MaxText {
		return nil, api.ErrLong
	}
	defer func() {
		switch p := recover().(type) {
		case nil:
		case refusal:
			e, err = nil, p.err
		default:
			panic(p)
		}
	}()
	r := &reader{text: text, next: tokens.Next(text, 0)}
	return r.whole(), nil
}

// whole: the expression that is all of the text. Its depth is asked last: what is wrong in the text is told ahead of it.
func (r *reader) whole() Exp {
	e := r.exp()
	if r.next.Kind != tokens.End {
		panic(r.wrong())
	}
	if e.Depth() > api.MaxDepth {
		panic(refusal{api.ErrDeep})
	}
	return e
}

func (r *reader) exp() Exp {
	switch {
	case r.skips("fun"):
		return r.fun()
	case r.skips("if"):
		return r.choice()
	case r.skips("let"):
		if r.skips("rec") {
			return r.letRec()
		}
		return r.let()
	}
	return r.applied()
}

// fun: what stands behind 'fun'.
func (r *reader) fun() Exp {
	param := r.name()
	r.must("->")
	body := r.exp()
	return &Fun{part: above(body), Param: param, Body: body}
}

// choice: what stands behind 'if'.
func (r *reader) choice() Exp {
	cond := r.exp()
	r.must("then")
	yes := r.exp()
	r.must("else")
	no := r.exp()
	return &If{part: above(cond, yes, no), Cond: cond, Yes: yes, No: no}
}

// let: what stands behind 'let', if that is no 'rec'.
func (r *reader) let() Exp {
	bind := r.bind()
	r.must("in")
	body := r.exp()
	return &Let{part: above(bind.Value, body), Bind: bind, Body: body}
}

// letRec: what stands behind 'let' 'rec'.
func (r *reader) letRec() Exp {
	group := []Bind{r.bind()}
	for r.skips("and") {
		if r.nextIsNameOf(group) {
			panic(r.wrong())
		}
		group = append(group, r.bind())
	}
	r.must("in")
	body := r.exp()
	below := []Exp{body}
	for _, b := range group {
		below = append(below, b.Value)
	}
	return &LetRec{part: above(below...), Group: group, Body: body}
}

// nextIsNameOf: does a name of the group stand next?
func (r *reader) nextIsNameOf(group []Bind) bool {
	return slices.ContainsFunc(group, func(b Bind) bool { return b.Name == r.next.Text })
}

// bind: a name, '=' and what it is.
func (r *reader) bind() Bind {
	name := r.name()
	r.must("=")
	return Bind{Name: name, Value: r.exp()}
}

// applied: an atom, and those behind it that it is applied to, one by one.
func (r *reader) applied() Exp {
	e := r.atom()
	for r.nextIsAtom() {
		arg := r.atom()
		e = &Apply{part: above(e, arg), Fun: e, Arg: arg}
	}
	return e
}

// nextIsAtom: can what stands next begin an atom?
func (r *reader) nextIsAtom() bool {
	return r.nextIsName() || r.next.Kind == tokens.Number || r.next.Text == "("
}

func (r *reader) atom() Exp {
	switch {
	case r.nextIsName():
		return &Name{part: above(), Text: r.take()}
	case r.next.Kind == tokens.Number:
		return &Number{part: above(), Text: r.take()}
	}
	r.must("(")
	return r.bracketed()
}

// bracketed: what stands behind '(': a pair, or an expression that the brackets add nothing to.
func (r *reader) bracketed() Exp {
	left := r.exp()
	if !r.skips(",") {
		r.must(")")
		return left
	}
	right := r.exp()
	r.must(")")
	return &Pair{part: above(left, right), Left: left, Right: right}
}

// name: takes a name.
func (r *reader) name() string {
	if !r.nextIsName() {
		panic(r.wrong())
	}
	return r.take()
}

func (r *reader) nextIsName() bool {
	return r.next.Kind == tokens.Word && !isKeyword(r.next.Text)
}

// isKeyword: is the word one of those that are no names?
func isKeyword(word string) bool {
	switch word {
	case "fun", "let", "rec", "and", "in", "if", "then", "else":
		return true
	}
	return false
}

// must: takes that sign or keyword.
func (r *reader) must(text string) {
	if !r.skips(text) {
		panic(r.wrong())
	}
}

// skips: takes that sign or keyword, if it stands next. (No name or number has the text of one.)
func (r *reader) skips(text string) bool {
	if r.next.Text != text {
		return false
	}
	r.take()
	return true
}

// take: the next token's text; the one behind it is next then.
func (r *reader) take() string {
	text := r.next.Text
	r.next = tokens.Next(r.text, r.next.Behind())
	return text
}

// wrong: that the next token is none, or cannot stand where it does.
func (r *reader) wrong() refusal {
	return refusal{&api.SyntaxError{At: r.next.At}}
}
