package why

import (
	"fmt"
	"slices"
	"testing"

	"groundwork/api"
	"groundwork/model"
)

// spare: a list with more behind it.
func spare[T any](l []T, more ...T) []T { return slices.Concat(l, more)[: len(l) : len(l)+len(more)] }

// handed: what calls are.
type handed struct {
	p api.Program
	l []api.Fact
	f api.Fact
	s []api.Step
}

// handedIn: the program p(X, Y) :- q(X, Y). p(X, Z) :- p(X, Y), q(Y, Z). n(X, count Y) :- p(X, Y). m(X) :- n(X, Y), p(X, Z), q(Z, X), with spare room in the lists, a fact twice, and two whose lists are one.
func handedIn(t *testing.T) handed {
	p := program(t, paths+"n(X, count Y) :- p(X, Y). m(X) :- n(X, Y), p(X, Z), q(Z, X).")
	p.Arity, p.Names, p.Rules = spare(p.Arity, 7), spare(p.Names, "Z"), spare(p.Rules, api.Rule{Pred: -3})
	odd := api.Term{Var: 77, N: 77}
	for i := range p.Rules {
		r := &p.Rules[i]
		r.Terms, r.Body = spare(r.Terms, odd, odd), spare(r.Body, api.Lit{Kind: 99}, api.Lit{Kind: 98})
		for j := range r.Body {
			r.Body[j].Terms = spare(r.Body[j].Terms, odd, odd)
		}
	}
	l := facts(t, p, "q2,3 q1,2 q3,1 q1,2")
	for i := range l {
		l[i].Args = spare(l[i].Args, 50, 51)
	}
	l = append(l, api.Fact{Pred: 0, Args: l[0].Args})
	s := steps(t, p, "q1,2; q2,3; p1,2 0 1,2; p1,3 1 1,3,2; n2,3 2 2,1")
	for i := range s {
		s[i].Fact.Args, s[i].Vars = spare(s[i].Fact.Args, 60), spare(s[i].Vars, 61, 62)
	}
	return handed{p, spare(l, f(1, 9, 9), f(1, 8, 8)), api.Fact{Pred: 3, Args: spare(list(1), 5, 6)}, spare(s, api.Step{Rule: 9}, api.Step{Rule: 8})}
}

// room: all that is handed, what is spare too.
func (h handed) room() string {
	s := fmt.Sprint(h.p.Arity[:cap(h.p.Arity)], h.p.Names[:cap(h.p.Names)], h.p.Rules[:cap(h.p.Rules)], h.l[:cap(h.l)], h.f.Args[:cap(h.f.Args)], h.s[:cap(h.s)])
	for _, r := range h.p.Rules {
		s += fmt.Sprint(r.Terms[:cap(r.Terms)], r.Body[:cap(r.Body)])
		for _, b := range r.Body {
			s += fmt.Sprint(b.Terms[:cap(b.Terms)])
		}
	}
	for _, f := range h.l {
		s += fmt.Sprint(f.Args[:cap(f.Args)])
	}
	for _, z := range h.s {
		s += fmt.Sprint(z.Fact.Args[:cap(z.Fact.Args)], z.Vars[:cap(z.Vars)])
	}
	return s
}

// proofs of what is asked, and of all that is in the model.
func (h handed) proofs(t *testing.T) [][]api.Step {
	var all [][]api.Step
	m, _ := model.Model(h.p, h.l)
	for _, f := range append(m, h.f) {
		s, ok, e := Prove(h.p, h.l, f)
		if !ok || e != api.OK {
			t.Fatalf("Prove of %v: %v %d", f, ok, e)
		}
		all = append(all, s)
	}
	if is, e := Check(h.p, h.l, h.s); !is || e != api.OK {
		t.Fatalf("Check: %v %d", is, e)
	}
	return all
}

// P2: what is handed in is only read, spare room too, and an answer does not change with it.
func TestOnlyReads(t *testing.T) {
	h := handedIn(t)
	got := h.proofs(t)
	if now, was := h.room(), handedIn(t).room(); now != was {
		t.Errorf("what was handed in is %s, was %s", now, was)
	}
	was := fmt.Sprint(got)
	for _, f := range append(h.l, h.f) {
		clear(f.Args[:cap(f.Args)])
	}
	for _, z := range h.s {
		clear(z.Fact.Args)
		clear(z.Vars)
	}
	for _, r := range h.p.Rules {
		clear(r.Terms)
		clear(r.Body)
	}
	clear(h.p.Rules)
	if now := fmt.Sprint(got); now != was {
		t.Errorf("answers are %s, were %s", now, was)
	}
}

// P2: no two lists of an answer share memory, nor does one with what was handed in.
func TestAnswersAreTheCallers(t *testing.T) {
	h := handedIn(t)
	was := fmt.Sprint(h.proofs(t))
	for _, s := range h.proofs(t) {
		var lists [][]int
		for _, z := range s {
			lists = append(lists, z.Fact.Args[:cap(z.Fact.Args)], z.Vars[:cap(z.Vars)])
		}
		for i, l := range lists {
			for k := range l {
				l[k] = 1000 + i
			}
		}
		for i, l := range lists {
			if slices.ContainsFunc(l, func(n int) bool { return n != 1000+i }) {
				t.Errorf("lists share memory: %v", s)
			}
		}
		clear(s[:cap(s)])
	}
	if now := fmt.Sprint(h.proofs(t)); now != was {
		t.Errorf("answers are %s, were %s", now, was)
	}
	if now, was := h.room(), handedIn(t).room(); now != was {
		t.Errorf("what was handed in is %s, was %s", now, was)
	}
}

// P3: which proof it is, is the same each time, whatever was asked between, and whatever was done with an answer.
func TestSameEachTime(t *testing.T) {
	var first []string
	for range 3 {
		d := draw(4)
		var now []string
		for range 60 {
			p, l := d.program(t)
			f := d.fact(p)
			s, ok, e := Prove(p, l, f)
			is, g := Check(p, l, s)
			now = append(now, fmt.Sprint(s, ok, e, is, g))
			clear(s)
		}
		if first == nil {
			first = now
		}
		if !slices.Equal(first, now) {
			t.Errorf("answers are %v, were %v", now, first)
		}
	}
}
