// Package update: what the layers of updates share: ids in order, that things rise, and copies.
package update

import (
	"cmp"
	"slices"

	"groundwork/api"
)

// Order of two ids: by Author, then by Number.
func Order(a, b api.Id) int {
	return cmp.Or(cmp.Compare(a.Author, b.Author), cmp.Compare(a.Number, b.Number))
}

// Rise: do things rise, each once, in an order?
func Rise[T any](l []T, order func(a, b T) int) bool {
	for i := 1; i < len(l); i++ {
		if order(l[i-1], l[i]) >= 0 {
			return false
		}
	}
	return true
}

// Copy of an update, all its lists too.
func Copy(u api.Update) api.Update {
	says := slices.Clone(u.Says)
	for i := range says {
		says[i].Args = slices.Clone(says[i].Args)
	}
	return api.Update{Id: u.Id, Parents: slices.Clone(u.Parents), Says: says, Takes: slices.Clone(u.Takes)}
}

// Copies of updates.
func Copies(l []api.Update) []api.Update {
	l = slices.Clone(l)
	for i, u := range l {
		l[i] = Copy(u)
	}
	return l
}

// CopyReplica, all its updates too.
func CopyReplica(r api.Replica) api.Replica {
	return api.Replica{Has: Copies(r.Has), Waits: Copies(r.Waits)}
}
