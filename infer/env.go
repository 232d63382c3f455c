package infer

import (
	"maps"
	"slices"
	"strings"

	"typer/api"
	"typer/expr"
	"typer/types"
)

// schemes: those of the names of env; or the *api.EnvError of the least name that can have none.
func schemes(env map[string]api.Typed) (map[string]types.Scheme, error) {
	known := make(map[string]types.Scheme, len(env))
	for _, name := range slices.Sorted(maps.Keys(env)) {
		if !expr.IsName(name) {
			return nil, &api.EnvError{Name: strings.Clone(name)}
		}
		t, err := types.Read(env[name].Type)
		if err != nil {
			return nil, &api.EnvError{Name: strings.Clone(name), Why: err}
		}
		known[name] = types.Scheme{Type: t}
	}
	return known, nil
}

// allKnown: nil, if each name of the expression stands for something; else the *api.UnboundError of the first that does not.
func allKnown(e expr.Exp, known map[string]types.Scheme) error {
	name := expr.Unbound(e, func(name string) bool {
		_, is := known[name]
		return is
	})
	if name == nil {
		return nil
	}
	return &api.UnboundError{At: name.At, Name: strings.Clone(name.Text)}
}
