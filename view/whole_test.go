package view

import (
	"slices"
	"testing"

	"groundwork/api"
	"groundwork/change"
	"groundwork/dag"
	"groundwork/gossip"
	"groundwork/model"
	"groundwork/scope"
	"groundwork/show"
	"groundwork/strata"
	"groundwork/token"
	"groundwork/tree"
	"groundwork/why"
	"groundwork/wire"
)

// speaker: an author with a replica of his own, and what he sees of it by changes that were played.
type speaker struct {
	api.Replica
	author, made int
	sees         []api.Fact
}

// hear updates: what is seen by them is what is open then.
func (s *speaker) hear(t *testing.T, p api.Program, l []api.Update) {
	x, changes, e := Deliver(p, s.Replica, l)
	if e != api.OK || len(changes) != len(l) {
		t.Fatalf("Deliver(%s, %v): %d changes, %d", ids(s.Replica), l, len(changes), e)
	}
	for _, c := range changes {
		s.sees = change.Play(s.sees, c)
	}
	s.Replica = x
	if m, e := Open(p, x); e != api.OK || !same(m, s.sees) {
		t.Fatalf("%s: open is %v %d, seen %v", ids(x), m, e, s.sees)
	}
}

// say something, behind all that he has: the bytes of an update.
func (s *speaker) say(t *testing.T, p api.Program, d *draw) string {
	heads, e := dag.Heads(s.Replica)
	if e != api.OK {
		t.Fatal(e)
	}
	u := api.Update{Id: id(s.author, s.made+1), Parents: heads}
	if one := id(s.author, s.made); s.made > 0 && !slices.Contains(heads, one) {
		u.Parents = append(u.Parents, one)
		slices.SortFunc(u.Parents, ahead)
	}
	for _, v := range s.Has {
		if len(u.Takes) < api.MaxParents && d.n(8) == 0 {
			u.Takes = append(u.Takes, v.Id)
		}
	}
	for range d.n(4) {
		u.Says = change.Play(u.Says, api.Change{Came: []api.Fact{d.fact(p)}})
	}
	bytes, e := wire.Encode(u)
	if e != api.OK {
		t.Fatalf("Encode(%v): %d", u, e)
	}
	s.made++
	s.hear(t, p, []api.Update{u})
	return bytes
}

// ask another one for what is missing: a round leads to the same.
func (s *speaker) ask(t *testing.T, p api.Program, other *speaker) {
	x, _, e := gossip.Round(s.Replica, other.Replica)
	heads, g := dag.Heads(s.Replica)
	l, h := gossip.Missing(other.Replica, heads)
	if !same([]api.Errno{e, g, h}, make([]api.Errno, 3)) {
		t.Fatalf("%s asks %s: %d %d %d", ids(s.Replica), ids(other.Replica), e, g, h)
	}
	s.hear(t, p, l)
	if !same(x, s.Replica) {
		t.Fatalf("behind a round it is %s, not %s", ids(x), ids(s.Replica))
	}
}

// talk of some speakers, each of whom says something now and then, that reaches others at once, later, or by asking.
func talk(t *testing.T, p api.Program, d *draw) []*speaker {
	l := make([]*speaker, 4)
	for i := range l {
		l[i] = &speaker{author: i}
		m, e := Open(p, l[i].Replica)
		if e != api.OK {
			t.Fatal(e)
		}
		l[i].sees = m
	}
	for range 15 {
		from := l[d.n(len(l))]
		u, e := wire.Decode(from.say(t, p, d))
		if e != api.OK {
			t.Fatal(e)
		}
		l[d.n(len(l))].hear(t, p, []api.Update{u, u})
		if d.n(3) == 0 {
			l[d.n(len(l))].ask(t, p, l[d.n(len(l))])
		}
	}
	// The first one hears all, then all hear the first one.
	for _, s := range l[1:] {
		l[0].ask(t, p, s)
	}
	for _, s := range l[1:] {
		s.ask(t, p, l[0])
	}
	return l
}

// whoeverSees: whoever has the same updates sees the same, in whatever order they came; each fact of it has a proof, and no other one has.
func whoeverSees(t *testing.T, p api.Program, l []*speaker) {
	for _, s := range l {
		if len(s.Has) != 15 || len(s.Waits) != 0 || !same(s.Replica, l[0].Replica) || !same(s.sees, l[0].sees) {
			t.Fatalf("%s sees %v; %s sees %v", ids(s.Replica), s.sees, ids(l[0].Replica), l[0].sees)
		}
	}
	var given []api.Fact
	facts, _ := dag.Facts(l[0].Replica)
	for _, f := range facts {
		if scope.Fact(p, f) == api.OK {
			given = append(given, f)
		}
	}
	if is, e := model.Is(p, given, l[0].sees); !is || e != api.OK {
		t.Fatalf("%v is seen of %v", l[0].sees, given)
	}
	for _, f := range l[0].sees {
		steps, ok, e := why.Prove(p, given, f)
		if is, g := why.Check(p, given, steps); !ok || !is || e != api.OK || g != api.OK {
			t.Fatalf("%v of %v: %v", f, given, steps)
		}
		// With a number that nobody said, and that nothing makes.
		f.Args = append(slices.Clone(f.Args), 77)[1:]
		if _, ok, e := why.Prove(p, given, f); ok && len(f.Args) > 0 || e != api.OK {
			t.Fatalf("%v of %v has a proof", f, given)
		}
	}
}

// The whole: a program by its text, tokens and tree, written anew; its levels; then what is said, told, seen and proven.
func TestWhole(t *testing.T) {
	for i, s := range texts() {
		d := draw(10 + i)
		tokens, _, _ := token.Scan(s)
		joined, e := token.Join(tokens)
		first, _, g := tree.Parse(joined)
		text, h := show.Show(first)
		again, _, k := tree.Parse(text)
		if !same([]api.Errno{e, g, h, k}, make([]api.Errno, 4)) || !show.Same(first, again) {
			t.Fatalf("%q is shown as %q", s, text)
		}
		p := program(t, text)
		if !same(p, program(t, s)) {
			t.Fatalf("%q and %q are not the same program", s, text)
		}
		if levels, e := strata.Levels(p); e != api.OK || len(levels) != len(p.Arity) {
			t.Fatalf("%q: levels %v, %d", s, levels, e)
		}
		for range 3 {
			whoeverSees(t, p, talk(t, p, &d))
		}
	}
}
