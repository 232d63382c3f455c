package typing

import (
	"math"
	"strings"

	"typer/api"
	"typer/expr"
	"typer/types"
)

// group: the names of a let rec, with their schemes of the last round.
func (t *typing) group(binds []expr.Bind) []named {
	var names []named
	for _, b := range binds {
		names = append(names, named{b.Name, types.Any()})
	}
	for round := 1; round <= t.Most; round++ {
		next := t.round(binds, names)
		t.tell(next, round)
		if same(names, next) {
			return next
		}
		names = next
	}
	panic(fault{api.ErrFuel})
}

// round: the names with the schemes that they get, where their schemes of the round ahead hold.
func (t *typing) round(binds []expr.Bind, ahead []named) []named {
	var found []*types.Cell
	for _, b := range binds {
		found = append(found, t.within(b.Value, ahead...))
	}
	// Behind all bodies: what is found out in one may stand in another's type.
	outside := t.reached()
	var next []named
	for k, b := range binds {
		next = append(next, named{b.Name, types.General(found[k], outside)})
	}
	return next
}

func same(ahead, next []named) bool {
	for k, n := range next {
		if !types.Same(ahead[k].scheme, n.scheme) {
			return false
		}
	}
	return true
}

// tellable: how many bytes the texts of a round may have, all together, to be told. Outer variables can be found out to be greater than any memory. Which rounds are told must hang on the call's arguments alone: so it is not what this machine has room for, but the greatest length that a text has on every machine. The fun that gives so great a variable is too big, so that the call answers an error in any case.
const tellable = math.MaxInt32

// tell: all is stopped, if the watcher says so. It gets new lists each time, as they are its own.
func (t *typing) tell(group []named, round int) {
	if t.Each == nil {
		return
	}
	var names []string
	var schemes []types.Scheme
	for _, n := range group {
		names = append(names, strings.Clone(n.name))
		schemes = append(schemes, n.scheme)
	}
	texts, ok := types.Texts(schemes, tellable)
	if ok && !t.Each(names, round, texts) {
		panic(fault{api.ErrStopped})
	}
}
