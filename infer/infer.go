// Package infer: the types of expressions: see DOC.md.
package infer

import (
	"strings"

	"typer/api"
	"typer/expr"
	"typer/types"
	"typer/typing"
)

// Show: the one text of an expression (P2).
func Show(src string) (string, error) {
	e, err := expr.Read(src)
	if err != nil {
		return "", err
	}
	// The text of a lone name is a piece of src; what is handed out shares nothing with it.
	return strings.Clone(expr.Text(e)), nil
}

// Canon: the one text of a type (P3).
func Canon(typ string) (string, error) {
	t, err := types.Read(typ)
	if err != nil {
		return "", err
	}
	return types.OneText(t), nil
}

// Instance: by which types for its variables a type becomes another (P3).
func Instance(general string, special string) (map[string]api.Typed, error) {
	g, err := types.Read(general)
	if err != nil {
		return nil, err
	}
	s, err := types.Read(special)
	if err != nil {
		return nil, err
	}
	found, ok := types.Match(g, s)
	if !ok {
		return nil, api.ErrNot
	}
	return found, nil
}

// Infer: the type of an expression (P4, P5).
func Infer(src string, env map[string]api.Typed, fuel int) (string, error) {
	return Watch(src, env, fuel, nil)
}

// Watch: that, and each round of each group (P6).
func Watch(src string, env map[string]api.Typed, fuel int, each func(names []string, round int, schemes []string) bool) (string, error) {
	e, err := expr.Read(src)
	if err != nil {
		return "", err
	}
	if fuel < 1 || fuel > api.MaxFuel {
		return "", api.ErrArg
	}
	known, err := schemes(env)
	if err != nil {
		return "", err
	}
	if err := allKnown(e, known); err != nil {
		return "", err
	}
	is, err := typing.Of(e, known, typing.Rounds{Most: fuel, Each: each})
	if err != nil {
		return "", err
	}
	return types.OneText(is.Type), nil
}
