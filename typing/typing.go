// Package typing finds the types of expressions.
package typing

import (
	"slices"

	"typer/api"
	"typer/expr"
	"typer/types"
)

// Rounds: how many rounds each group of names may have, and who is told of each round, and may stop all by false (nil: nobody).
type Rounds struct {
	Most int
	Each func(names []string, round int, schemes []string) bool
}

// typing: an expression's typing on its way.
type typing struct {
	types.Cells
	Rounds
	env   map[string]types.Scheme
	names []named // those that the expression gives, the inner ones behind
}

// named: a name, and the scheme that it has.
type named struct {
	name   string
	scheme types.Scheme
}

// fault: what typing panics with. A type of its own keeps it apart from panics that are faults of the program.
type fault struct {
	err error
}

// Of: the scheme of an expression, each name of which stands for something in it or in env; or api.ErrType, api.ErrBig, api.ErrFuel, api.ErrStopped, whichever is met first.
func Of(e expr.Exp, env map[string]types.Scheme, rounds Rounds) (of types.Scheme, err error) {
	defer func() {
		switch p := recover().(type) {
		case nil:
		case fault:
			err = p.err
		default:
			panic(p)
		}
	}()
	t := &typing{Rounds: rounds, env: env}
	return types.General(t.part(e), nil), nil
}

// part: the type of a part, which is not too big behind it.
func (t *typing) part(e expr.Exp) *types.Cell {
	is := t.find(e)
	if types.Big(is) {
		panic(fault{api.ErrBig})
	}
	return is
}

func (t *typing) find(e expr.Exp) *types.Cell {
	switch e := e.(type) {
	case *expr.Name:
		return t.Instance(t.scheme(e.Text))
	case *expr.Fun:
		return t.fun(e)
	case *expr.If:
		return t.choice(e)
	case *expr.Let:
		return t.let(e)
	case *expr.LetRec:
		return t.within(e.Body, t.group(e.Group)...)
	case *expr.Apply:
		return t.apply(e)
	case *expr.Pair:
		left := t.part(e.Left)
		return t.Of(&types.Pair{Left: left, Right: t.part(e.Right)})
	}
	// What is left is a number.
	return t.Of(&types.Basic{Text: "int"})
}

func (t *typing) fun(e *expr.Fun) *types.Cell {
	param := t.Of(nil)
	body := t.within(e.Body, named{e.Param, types.Scheme{Type: param}})
	return t.Of(&types.Arrow{From: param, To: body})
}

func (t *typing) choice(e *expr.If) *types.Cell {
	t.equal(t.part(e.Cond), t.Of(&types.Basic{Text: "bool"}))
	yes := t.part(e.Yes)
	t.equal(yes, t.part(e.No))
	return yes
}

func (t *typing) let(e *expr.Let) *types.Cell {
	value := t.part(e.Bind.Value)
	return t.within(e.Body, named{e.Bind.Name, types.General(value, t.reached())})
}

func (t *typing) apply(e *expr.Apply) *types.Cell {
	fun := t.part(e.Fun)
	arg := t.part(e.Arg)
	out := t.Of(nil)
	t.equal(fun, t.Of(&types.Arrow{From: arg, To: out}))
	return out
}

// equal: makes two types equal, or finds that there is no way.
func (t *typing) equal(a, b *types.Cell) {
	if !types.Equal(a, b) {
		panic(fault{api.ErrType})
	}
}

// within: the type of a part in which more names stand for something.
func (t *typing) within(e expr.Exp, more ...named) *types.Cell {
	outer := len(t.names)
	t.names = append(t.names, more...)
	is := t.part(e)
	t.names = t.names[:outer]
	return is
}

// scheme: that of the innermost name of that text.
func (t *typing) scheme(name string) types.Scheme {
	for _, n := range slices.Backward(t.names) {
		if n.name == name {
			return n.scheme
		}
	}
	return t.env[name]
}

// reached: the cells in the names' types. (Those of env have none. A name that is hidden may be asked as well: what stands in its type and in one that is found where it is hidden has come there by way of a name that is not.)
func (t *typing) reached() types.Reached {
	r := types.Reached{}
	for _, n := range t.names {
		r.Add(n.scheme.Type)
	}
	return r
}
