package dag

import (
	"fmt"
	"slices"
	"testing"

	"groundwork/api"
)

// spare: a list with more behind it.
func spare[T any](l []T, more ...T) []T { return slices.Concat(l, more)[: len(l) : len(l)+len(more)] }

// roomy: an update whose lists have spare room.
func roomy(u api.Update) api.Update {
	u.Parents, u.Takes = spare(u.Parents, id(9, 9), id(8, 8)), spare(u.Takes, id(7, 7))
	u.Says = spare(u.Says, f(50), f(51))
	for i := range u.Says {
		u.Says[i].Args = spare(u.Says[i].Args, 60, 61)
	}
	return u
}

// handedIn: a replica and an update, with spare room in all lists, some of which are one and the same.
func handedIn(t *testing.T) (api.Replica, api.Update) {
	r := replica(t, "0.1 +3 +5; 0.2 <0.1 -0.1 +5; 1.1 +2 +4 | 1.2 <1.1 <2.1 +6; 3.1 <4.1 -0.1")
	u := roomy(made(t, "2.1 <0.2 <1.1 -0.1 +1 +7"))
	for _, l := range [][]api.Update{r.Has, r.Waits} {
		for i := range l {
			l[i] = roomy(l[i])
		}
	}
	r.Waits[1].Takes = r.Has[1].Takes
	r.Waits[0].Says = r.Has[1].Says
	u.Says = r.Has[0].Says
	r.Has, r.Waits = spare(r.Has, made(t, "4.1"), made(t, "5.1")), spare(r.Waits, made(t, "4.2"), made(t, "5.2"))
	return r, u
}

// rooms of updates, what is spare too.
func rooms(l []api.Update) string {
	s := fmt.Sprint(l[:cap(l)])
	for _, u := range l {
		s += fmt.Sprint(u.Parents[:cap(u.Parents)], u.Takes[:cap(u.Takes)], u.Says[:cap(u.Says)])
		for _, f := range u.Says {
			s += fmt.Sprint(f.Args[:cap(f.Args)])
		}
	}
	return s
}

func room(r api.Replica, u api.Update) string {
	return rooms(r.Has) + rooms(r.Waits) + rooms([]api.Update{u})
}

// answers of all calls, of one update that is new and of one that is there.
func answers(t *testing.T, r api.Replica, u api.Update) ([]api.Replica, []api.Id, []api.Fact) {
	x, e := Add(r, u)
	y, g := Add(r, r.Has[1])
	h, k := Heads(r)
	l, m := Facts(r)
	if !same([]api.Errno{Check(r), e, g, k, m}, make([]api.Errno, 5)) || told(x) != "0.1 0.2 1.1 1.2 2.1 | 3.1" || told(y) != told(r) {
		t.Fatalf("%d %d %d %d %d; %s; %s", Check(r), e, g, k, m, told(x), told(y))
	}
	return []api.Replica{x, y}, h, l
}

// wipe all lists of updates, their spare room too.
func wipe(l []api.Update) {
	for _, u := range l {
		for _, f := range u.Says {
			clear(f.Args[:cap(f.Args)])
		}
		clear(u.Says[:cap(u.Says)])
		clear(u.Parents[:cap(u.Parents)])
		clear(u.Takes[:cap(u.Takes)])
	}
	clear(l[:cap(l)])
}

// P2: what is handed in is only read, spare room too, and an answer does not change with it.
func TestOnlyReads(t *testing.T) {
	r, u := handedIn(t)
	x, h, l := answers(t, r, u)
	if now, was := room(r, u), room(handedIn(t)); now != was {
		t.Errorf("what was handed in is %s, was %s", now, was)
	}
	was := fmt.Sprint(x, h, l)
	wipe(r.Has)
	wipe(r.Waits)
	wipe([]api.Update{u})
	if now := fmt.Sprint(x, h, l); now != was {
		t.Errorf("answers are %s, were %s", now, was)
	}
}

// marked: lists, each by a number of its own, have it still when all are.
func marked[T any](t *testing.T, lists [][]T, mark func(n int) T) {
	for i, l := range lists {
		for k := range l[:cap(l)] {
			l[:cap(l)][k] = mark(i)
		}
	}
	for i, l := range lists {
		if slices.ContainsFunc(l[:cap(l)], func(x T) bool { return !same(x, mark(i)) }) {
			t.Errorf("lists share memory: %v", lists)
		}
	}
}

// P2: no two lists of an answer share memory, nor does one with what was handed in.
func TestAnswersAreTheCallers(t *testing.T) {
	r, u := handedIn(t)
	x, h, l := answers(t, r, u)
	for _, x := range x {
		var args [][]int
		var says [][]api.Fact
		var ids [][]api.Id
		for _, u := range slices.Concat(x.Has, x.Waits) {
			for _, f := range u.Says {
				args = append(args, f.Args)
			}
			says, ids = append(says, u.Says), append(ids, u.Parents, u.Takes)
		}
		marked(t, args, func(n int) int { return n })
		marked(t, says, func(n int) api.Fact { return f(n) })
		marked(t, ids, func(n int) api.Id { return id(n, n) })
		marked(t, [][]api.Update{x.Has, x.Waits}, func(n int) api.Update { return api.Update{Id: id(n, n)} })
	}
	var args [][]int
	for _, f := range l {
		args = append(args, f.Args)
	}
	marked(t, args, func(n int) int { return n })
	clear(l[:cap(l)])
	clear(h[:cap(h)])
	if now, was := room(r, u), room(handedIn(t)); now != was {
		t.Errorf("what was handed in is %s, was %s", now, was)
	}
	answers(t, r, u)
}
