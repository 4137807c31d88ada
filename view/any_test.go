package view

import (
	"fmt"
	"slices"
	"testing"

	"groundwork/api"
	"groundwork/change"
	"groundwork/dag"
	"groundwork/model"
)

// texts of programs by which any replicas are seen.
func texts() []string {
	return []string{
		"p(X, Y) :- q(X, Y). p(X, Z) :- p(X, Y), q(Y, Z).",
		"q(1, 2). r(X) :- q(X, Y). s(X) :- q(Y, X), not r(X). t(count X) :- s(X). t(count X) :- r(X).",
		"d(X, 0) :- r(X). d(Y, N) :- d(X, M), q(X, Y), M + 1 = N, N < 4. b(X, least N) :- d(X, N).",
		"s(X, sum Y) :- q(X, Y). m(X, most Y) :- s(X, Y), Y < 9. n(X) :- m(X, Y), not s(Y, X).",
		"z() :- not y(). y() :- r(X), not q(X, X). w(X, X, 2) :- z(), r(X). v(0) :- w(X, Y, Z), Y <= 1.",
		both,
		roads,
	}
}

// draw numbers for updates at random; the same each time.
type draw uint64

func (d *draw) n(n int) int {
	*d = *d*6364136223846793005 + 1442695040888963407
	return int(uint64(*d) >> 33 % uint64(n))
}

func ahead(a, b api.Id) int { return a.Author*1000 + a.Number - b.Author*1000 - b.Number }

// fact, mostly one that is right for a program.
func (d *draw) fact(p api.Program) api.Fact {
	f := api.Fact{Pred: d.n(len(p.Arity))}
	n := p.Arity[f.Pred]
	switch d.n(8) {
	case 0:
		f.Pred = d.n(api.MaxPreds)
	case 1:
		n = d.n(api.MaxArity + 1)
	}
	for range n {
		f.Args = append(f.Args, d.n(3))
	}
	return f
}

// updates, each right, that hang on those made ahead of them, in any order; some may be missing, some be there twice.
func (d *draw) updates(p api.Program, most int) []api.Update {
	var l []api.Update
	var made []api.Id
	var counts [api.MaxAuthors]int
	for range 1 + d.n(most) {
		a := d.n(api.MaxAuthors)
		counts[a]++
		u := api.Update{Id: id(a, counts[a])}
		for _, x := range made {
			one := x == id(a, counts[a]-1)
			if one || len(u.Parents) < 4 && d.n(5) == 0 {
				u.Parents = append(u.Parents, x)
			}
			if len(u.Takes) < 6 && d.n(7) == 0 {
				u.Takes = append(u.Takes, x)
			}
		}
		slices.SortFunc(u.Parents, ahead)
		slices.SortFunc(u.Takes, ahead)
		for range d.n(4) {
			u.Says = change.Play(u.Says, api.Change{Came: []api.Fact{d.fact(p)}})
		}
		l, made = append(l, u), append(made, u.Id)
	}
	for i := range l {
		j := i + d.n(len(l)-i)
		l[i], l[j] = l[j], l[i]
	}
	for range d.n(3) {
		l[d.n(len(l))] = l[d.n(len(l))]
	}
	return l
}

// without: the texts of facts that are not among others.
func without(l, others []api.Fact) []string {
	var out []string
	for _, f := range l {
		if !slices.ContainsFunc(others, func(g api.Fact) bool { return same(f, g) }) {
			out = append(out, fmt.Sprint(f))
		}
	}
	return out
}

// seen by hand: the model of what is said, is not taken back, and has as many numbers as its predicate.
func seen(t *testing.T, p api.Program, r api.Replica) []api.Fact {
	var l []api.Fact
	for _, u := range r.Has {
		if slices.ContainsFunc(r.Has, func(v api.Update) bool { return slices.Contains(v.Takes, u.Id) }) {
			continue
		}
		for _, f := range u.Says {
			given := slices.ContainsFunc(l, func(g api.Fact) bool { return same(f, g) })
			if !given && f.Pred < len(p.Arity) && p.Arity[f.Pred] == len(f.Args) {
				l = append(l, f)
			}
		}
	}
	m, e := model.Model(p, l)
	if e != api.OK {
		t.Fatalf("Model of %v: %d", l, e)
	}
	return m
}

// N1, N2: any updates, told by hand, one by one; what came and went by texts.
func TestAnyUpdates(t *testing.T) {
	d := draw(1)
	came, went, none := 0, 0, 0
	for _, s := range texts() {
		p := program(t, s)
		for range 30 {
			l := d.updates(p, 9)
			x, changes, e := Deliver(p, api.Replica{}, l)
			if e != api.OK || len(changes) != len(l) {
				t.Fatalf("Deliver(%q, %v): %d changes, %d", s, l, len(changes), e)
			}
			var r api.Replica
			was := seen(t, p, r)
			for i, u := range l {
				r, _ = dag.Add(r, u)
				now := seen(t, p, r)
				if m, e := Open(p, r); e != api.OK || !same(m, now) {
					t.Fatalf("Open(%q, %v) = %v %d, want %v", s, r, m, e, now)
				}
				wantCame, wantWent := without(now, was), without(was, now)
				if c := changes[i]; fmt.Sprint(c.Came) != fmt.Sprint(wantCame) || fmt.Sprint(c.Went) != fmt.Sprint(wantWent) {
					t.Fatalf("Deliver(%q, %v): change %d is %v, want %v, %v", s, l, i, c, wantCame, wantWent)
				}
				came, went = came+min(1, len(wantCame)), went+min(1, len(wantWent))
				if len(wantCame)+len(wantWent) == 0 {
					none++
				}
				was = now
			}
			if !same(x, r) {
				t.Fatalf("Deliver(%q, %v) = %v, want %v", s, l, x, r)
			}
		}
	}
	if came < 200 || went < 100 || none < 200 {
		t.Errorf("%d times something came, %d went, %d neither", came, went, none)
	}
}

// N3: changes that are played, one by one, lead from what was open to what is; delivered at once, or in parts.
func TestPlayOfAnyChanges(t *testing.T) {
	d := draw(2)
	for _, s := range texts() {
		p := program(t, s)
		for range 20 {
			l := d.updates(p, 12)
			half := d.n(len(l) + 1)
			r, first, e := Deliver(p, api.Replica{}, l[:half])
			m, g := Open(p, r)
			x, rest, h := Deliver(p, r, l[half:])
			now, k := Open(p, x)
			if !same([]api.Errno{e, g, h, k}, make([]api.Errno, 4)) {
				t.Fatalf("%q, %v: %d %d %d %d", s, l, e, g, h, k)
			}
			for _, c := range rest {
				m = change.Play(m, c)
			}
			if !same(m, now) {
				t.Fatalf("%q, %v: %v is played to %v, not %v", s, l, rest, m, now)
			}
			y, whole, e := Deliver(p, api.Replica{}, l)
			if e != api.OK || !same(x, y) || !same(whole, slices.Concat(first, rest)) {
				t.Fatalf("%q, %v: at once %v %v %d; in parts %v %v", s, l, y, whole, e, x, slices.Concat(first, rest))
			}
		}
	}
}

// N2, L4: in whatever order updates come, the same is seen at last.
func TestAnyOrder(t *testing.T) {
	d := draw(3)
	for _, s := range texts() {
		p := program(t, s)
		for range 20 {
			l := d.updates(p, 12)
			x, _, e := Deliver(p, api.Replica{}, l)
			m, g := Open(p, x)
			slices.Reverse(l)
			y, _, h := Deliver(p, api.Replica{}, l)
			n, k := Open(p, y)
			if !same([]api.Errno{e, g, h, k}, make([]api.Errno, 4)) || !same(x, y) || !same(m, n) {
				t.Fatalf("%q, %v: %v and %v", s, l, m, n)
			}
		}
	}
}

// P3: the same each time, whatever was asked between, and whatever was done with an answer.
func TestSameEachTime(t *testing.T) {
	var first []string
	for range 3 {
		d := draw(4)
		var now []string
		for _, s := range texts() {
			p := program(t, s)
			for range 5 {
				x, c, e := Deliver(p, api.Replica{}, d.updates(p, 8))
				m, g := Open(p, x)
				now = append(now, fmt.Sprint(x, c, e, m, g))
				clear(x.Has)
				clear(x.Waits)
				clear(c)
				clear(m)
			}
		}
		if first == nil {
			first = now
		}
		if !slices.Equal(first, now) {
			t.Errorf("answers are %v, were %v", now, first)
		}
	}
}
