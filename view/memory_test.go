package view

import (
	"fmt"
	"slices"
	"testing"

	"groundwork/api"
)

// spare: a list with more behind it.
func spare[T any](l []T, more ...T) []T { return slices.Concat(l, more)[: len(l) : len(l)+len(more)] }

func whole[T any](l []T) []T { return l[:cap(l)] }

// roomy: updates that have spare room in all their lists.
func roomy(l []api.Update) []api.Update {
	for i, u := range l {
		for k, f := range u.Says {
			u.Says[k].Args = spare(f.Args, 60, 61)
		}
		l[i] = api.Update{Id: u.Id, Parents: spare(u.Parents, id(9, 9)), Says: spare(u.Says, api.Fact{Pred: 50}), Takes: spare(u.Takes, id(8, 8))}
	}
	return spare(l, api.Update{Id: id(7, 7)}, api.Update{Id: id(6, 6)})
}

// handedIn: with spare room in all lists, some of which are one and the same.
func handedIn(t *testing.T) handed {
	p := program(t, both)
	h := handed{p: api.Program{Arity: spare(p.Arity, 9), Names: spare(p.Names, "Z"), Rules: spare(p.Rules, api.Rule{Pred: -3})}}
	for i, r := range h.p.Rules {
		h.p.Rules[i].Terms, h.p.Rules[i].Body = spare(r.Terms, api.Term{Var: 99}), spare(r.Body, api.Lit{Kind: 99})
	}
	r := replica(p, "0.1 b1 b2; 0.2 <0.1 -0.1 b2; 1.1 b3 c2 | 1.2 <1.1 <2.1 b5; 3.1 <4.1 -0.1")
	h.r = api.Replica{Has: roomy(r.Has), Waits: roomy(r.Waits)}
	h.l = roomy(updates(p, "5.1 <0.1 b6 c9; 2.1 b4; 2.2 <2.1 -5.1; 0.2 <0.1"))
	h.r.Has[1].Takes = h.r.Has[1].Parents
	h.l[0].Parents = h.r.Has[1].Parents
	h.l[1].Says = h.r.Has[1].Says
	return h
}

// lists of what is handed in, or answered, each kind of them with what is spare.
type lists struct {
	updates [][]api.Update
	changes [][]api.Change
	ids     [][]api.Id
	facts   [][]api.Fact
	args    [][]int
}

func (s *lists) addFacts(l []api.Fact) {
	s.facts = append(s.facts, whole(l))
	for _, f := range l {
		s.args = append(s.args, whole(f.Args))
	}
}

func (s *lists) addUpdates(l []api.Update) {
	s.updates = append(s.updates, whole(l))
	for _, u := range l {
		s.ids = append(s.ids, whole(u.Parents), whole(u.Takes))
		s.addFacts(u.Says)
	}
}

func (s *lists) addChanges(l []api.Change) {
	s.changes = append(s.changes, whole(l))
	for _, c := range l {
		s.addFacts(c.Came)
		s.addFacts(c.Went)
	}
}

// lists of all that is handed in but the program.
func (h handed) lists() *lists {
	s := &lists{}
	for _, l := range [][]api.Update{h.r.Has, h.r.Waits, h.l} {
		s.addUpdates(l)
	}
	return s
}

// room: all that is handed in, what is spare too.
func (h handed) room() string {
	s := fmt.Sprint(*h.lists(), whole(h.p.Arity), whole(h.p.Names), whole(h.p.Rules))
	for _, r := range h.p.Rules {
		s += fmt.Sprint(whole(r.Terms), whole(r.Body))
	}
	return s
}

// answers of both calls, of Deliver without updates too; the lists of each.
func (h handed) answers(t *testing.T) []*lists {
	m, e := Open(h.p, h.r)
	x, c, g := Deliver(h.p, h.r, h.l)
	y, none, k := Deliver(h.p, h.r, nil)
	got := []string{shown(h.p, m), ids(x), shownChanges(h.p, c), ids(y), shownChanges(h.p, none)}
	want := []string{"a3 b2 b3 c2 n1 z", "0.1 0.2 1.1 1.2 2.1 2.2 5.1 | 3.1", "a6 b6 c9 n2 | n1; a5 b5 n3 | n2; n2 | a6 b6 c9 n3; |", ids(h.r), ""}
	if !slices.Equal(got, want) || !same([]api.Errno{e, g, k}, make([]api.Errno, 3)) {
		t.Errorf("answers are %q, %d %d %d, want %q", got, e, g, k, want)
	}
	opened, delivered, again := &lists{}, &lists{}, &lists{}
	opened.addFacts(m)
	for _, l := range [][]api.Update{x.Has, x.Waits} {
		delivered.addUpdates(l)
	}
	delivered.addChanges(c)
	for _, l := range [][]api.Update{y.Has, y.Waits} {
		again.addUpdates(l)
	}
	return []*lists{opened, delivered, again}
}

// mark each list by a number of its own, and tell whether each still has it when all are marked.
func mark[T any](all [][]T, mark func(n int) T) bool {
	for i, l := range all {
		for k := range l {
			l[k] = mark(i)
		}
	}
	for i, l := range all {
		if slices.ContainsFunc(l, func(x T) bool { return !same(x, mark(i)) }) {
			return false
		}
	}
	return true
}

// mark all lists; is none of them another one too?
func (s *lists) mark() bool {
	alone := []bool{
		mark(s.args, func(n int) int { return 1000 + n }),
		mark(s.facts, func(n int) api.Fact { return api.Fact{Pred: 1000 + n} }),
		mark(s.ids, func(n int) api.Id { return id(1000+n, n) }),
		mark(s.changes, func(n int) api.Change { return api.Change{Came: make([]api.Fact, n)} }),
		mark(s.updates, func(n int) api.Update { return api.Update{Id: id(1000+n, n)} }),
	}
	return !slices.Contains(alone, false)
}

// P2: what is handed in is only read, spare room too, and an answer does not change with it.
func TestOnlyReads(t *testing.T) {
	h := handedIn(t)
	answers := h.answers(t)
	if now, was := h.room(), handedIn(t).room(); now != was {
		t.Errorf("what was handed in is %s, was %s", now, was)
	}
	text := func() string { return fmt.Sprint(*answers[0], *answers[1], *answers[2]) }
	was := text()
	h.lists().mark()
	for _, r := range h.p.Rules {
		clear(whole(r.Body))
		clear(whole(r.Terms))
	}
	if now := text(); now != was {
		t.Errorf("answers are %s, were %s", now, was)
	}
}

// P2: no two lists of an answer share memory, nor does one with what was handed in.
func TestAnswersAreTheCallers(t *testing.T) {
	h := handedIn(t)
	for i, l := range h.answers(t) {
		if !l.mark() {
			t.Errorf("lists of answer %d share memory", i)
		}
	}
	if now, was := h.room(), handedIn(t).room(); now != was {
		t.Errorf("what was handed in is %s, was %s", now, was)
	}
	h.answers(t)
}
