package gossip

import (
	"fmt"
	"slices"
	"testing"

	"groundwork/api"
)

// spare: a list with more behind it.
func spare[T any](l []T, more ...T) []T { return slices.Concat(l, more)[: len(l) : len(l)+len(more)] }

// roomy: a replica whose lists, and those of its updates, have spare room.
func roomy(r api.Replica) api.Replica {
	for _, l := range []*[]api.Update{&r.Has, &r.Waits} {
		for i, u := range *l {
			u.Parents, u.Takes = spare(u.Parents, id(9, 9)), spare(u.Takes, id(8, 8))
			for k, f := range u.Says {
				u.Says[k].Args = spare(f.Args, 60, 61)
			}
			u.Says = spare(u.Says, api.Fact{Pred: 50})
			(*l)[i] = u
		}
		*l = spare(*l, made("4.4 <4.4"), made("4.5 <4.5"))
	}
	return r
}

// handedIn: two replicas and heads, with spare room in all lists; both have some lists together.
func handedIn() (a, b api.Replica, heads []api.Id) {
	a = roomy(replica("0.1 +a +bb; 0.2 <0.1 -0.1 +c; 1.1 +d | 1.2 <1.1 <2.1 +e; 3.1 <4.1 -0.1"))
	b = roomy(replica("0.1 +a +bb; 2.1 <0.1 -0.1 +c +dd; 5.1 | 5.2 <5.1 <5.9"))
	b.Has[0] = a.Has[0]
	b.Has[1].Parents, b.Has[1].Takes = a.Has[1].Parents, a.Has[1].Parents
	return a, b, spare(ids("0.1 3.3"), id(1, 1), id(0, 2))
}

// lists of updates, each kind of them with what is spare.
type lists struct {
	updates [][]api.Update
	ids     [][]api.Id
	says    [][]api.Fact
	args    [][]int
}

func whole[T any](l []T) []T { return l[:cap(l)] }

func listsOf(updates ...[]api.Update) lists {
	var s lists
	for _, l := range updates {
		s.updates = append(s.updates, whole(l))
		for _, u := range l {
			s.ids = append(s.ids, whole(u.Parents), whole(u.Takes))
			s.says = append(s.says, whole(u.Says))
			for _, f := range u.Says {
				s.args = append(s.args, whole(f.Args))
			}
		}
	}
	return s
}

// mark each list by a number of its own, and tell whether each still has it when all are marked.
func mark[T any](all [][]T, mark func(n int) T) bool {
	for i, l := range all {
		for k := range l {
			l[k] = mark(i)
		}
	}
	for i, l := range all {
		if slices.ContainsFunc(l, func(x T) bool { return !same(x, mark(i)) }) {
			return false
		}
	}
	return true
}

// mark all lists; is none of them another one too?
func (s lists) mark() bool {
	args := mark(s.args, func(n int) int { return 1000 + n })
	says := mark(s.says, func(n int) api.Fact { return api.Fact{Pred: 1000 + n} })
	marks := mark(s.ids, func(n int) api.Id { return id(1000+n, n) })
	return mark(s.updates, func(n int) api.Update { return api.Update{Id: id(1000+n, n)} }) && args && says && marks
}

// answers of both calls; one round in which nothing is missing, too.
func answers(t *testing.T, a, b api.Replica, heads []api.Id) []lists {
	l, e := Missing(a, heads)
	x, y, g := Round(a, b)
	v, w, h := Round(a, a)
	got := []string{named(l), shown(x), shown(y), shown(v), shown(w)}
	want := []string{"0.2 1.1", "0.1 0.2 1.1 1.2 2.1 5.1 | 3.1", "0.1 0.2 1.1 2.1 5.1 | 5.2", shown(a), shown(a)}
	if !slices.Equal(got, want) || !same([]api.Errno{e, g, h}, make([]api.Errno, 3)) {
		t.Errorf("answers are %q, %d %d %d, want %q", got, e, g, h, want)
	}
	return []lists{listsOf(l), listsOf(x.Has, x.Waits, y.Has, y.Waits), listsOf(v.Has, v.Waits, w.Has, w.Waits)}
}

// room: all that is handed in, what is spare too.
func room(a, b api.Replica, heads []api.Id) string {
	return fmt.Sprint(listsOf(a.Has, a.Waits, b.Has, b.Waits), whole(heads))
}

// P2: what is handed in is only read, spare room too, and an answer does not change with it.
func TestOnlyReads(t *testing.T) {
	a, b, heads := handedIn()
	got := answers(t, a, b, heads)
	if now, was := room(a, b, heads), room(handedIn()); now != was {
		t.Errorf("what was handed in is %s, was %s", now, was)
	}
	was := fmt.Sprint(got)
	listsOf(a.Has, a.Waits, b.Has, b.Waits).mark()
	clear(whole(heads))
	if now := fmt.Sprint(got); now != was {
		t.Errorf("answers are %s, were %s", now, was)
	}
}

// P2: no two lists of an answer share memory, nor does one with what was handed in.
func TestAnswersAreTheCallers(t *testing.T) {
	a, b, heads := handedIn()
	for i, l := range answers(t, a, b, heads) {
		if !l.mark() {
			t.Errorf("lists of answer %d share memory", i)
		}
	}
	if now, was := room(a, b, heads), room(handedIn()); now != was {
		t.Errorf("what was handed in is %s, was %s", now, was)
	}
	answers(t, a, b, heads)
}
