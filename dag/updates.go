package dag

import (
	"iter"
	"slices"

	"groundwork/api"
	"groundwork/update"
)

func order(a, b api.Update) int { return update.Order(a.Id, b.Id) }

// copies of updates, in order.
func copies(l iter.Seq[api.Update]) []api.Update {
	return update.Copies(slices.SortedFunc(l, order))
}

// updates by their ids.
type updates map[api.Id]api.Update

func byIds(l []api.Update) updates {
	s := updates{}
	for _, u := range l {
		s[u.Id] = u
	}
	return s
}

// hold: are all of these ids theirs?
func (s updates) hold(ids ...api.Id) bool {
	for _, id := range ids {
		if _, is := s[id]; !is {
			return false
		}
	}
	return true
}

// carry: are all that an update hangs on among them?
func (s updates) carry(u api.Update) bool {
	return s.hold(u.Parents...) && s.hold(u.Takes...)
}

// settle updates: again and again, those whose Parents and Takes were all come to are come to. The others are left.
func settle(l []api.Update) (come updates, left []api.Update) {
	come = updates{}
	for {
		left = nil
		for _, u := range l {
			if come.carry(u) {
				come[u.Id] = u
			} else {
				left = append(left, u)
			}
		}
		if len(left) == len(l) {
			return come, left
		}
		l = left
	}
}

// unnamed: those of which none names the ids, where it is told to look.
func unnamed(l []api.Update, names func(api.Update) []api.Id) []api.Update {
	named := map[api.Id]int{}
	for _, u := range l {
		for _, id := range names(u) {
			named[id]++
		}
	}
	return slices.DeleteFunc(slices.Clone(l), func(u api.Update) bool { return named[u.Id] > 0 })
}
