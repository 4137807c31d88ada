package view

import (
	"slices"

	"groundwork/api"
	"groundwork/change"
	"groundwork/dag"
	"groundwork/model"
	"groundwork/scope"
)

// viewer of a replica: by which program; those of its facts that are right for it, and their model.
type viewer struct {
	api.Replica
	program     api.Program
	right, open []api.Fact
}

// opened: the viewer of a replica by a program, either of which may be wrong.
func opened(p api.Program, r api.Replica) (viewer, api.Errno) {
	if e := scope.Check(p); e != api.OK {
		return viewer{}, e
	}
	v := viewer{Replica: r, program: p}
	e := v.look()
	if e != api.OK {
		return viewer{}, e
	}
	if v.open, e = model.Model(p, v.right); e != api.OK {
		return viewer{}, e
	}
	return v, api.OK
}

// look which facts are right by now.
func (v *viewer) look() api.Errno {
	facts, e := dag.Facts(v.Replica)
	v.right = slices.DeleteFunc(facts, func(f api.Fact) bool { return scope.Fact(v.program, f) != api.OK })
	return e
}

// deliver an update: what comes and goes by it.
func (v *viewer) deliver(u api.Update) (api.Change, api.Errno) {
	had, was := len(v.Has), v.right
	var e api.Errno
	if v.Replica, e = dag.Add(v.Replica, u); e != api.OK {
		return api.Change{}, e
	}
	// It waits, or was there: as nothing ever goes out of Has, all is as it was.
	if len(v.Has) == had {
		return api.Change{}, api.OK
	}
	if e = v.look(); e != api.OK {
		return api.Change{}, e
	}
	// All that was right is taken, and all that is right now is put: so just this is given then.
	var c api.Change
	_, v.open, c, e = change.Apply(v.program, was, v.open, v.right, was)
	return c, e
}
