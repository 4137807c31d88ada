package change

import (
	"fmt"
	"slices"
	"testing"

	"groundwork/api"
	"groundwork/model"
	"groundwork/relation"
)

// texts of programs with which facts at random are changed.
func texts() []string {
	return []string{
		"p(X, Y) :- q(X, Y). p(X, Z) :- p(X, Y), q(Y, Z).",
		"q(1, 2). r(X) :- q(X, Y). s(X) :- q(Y, X), not r(X). t(count X) :- s(X). t(count X) :- r(X).",
		"d(X, 0) :- r(X). d(Y, N) :- d(X, M), q(X, Y), M + 1 = N, N < 4. b(X, least N) :- d(X, N).",
		"s(X, sum Y) :- q(X, Y). m(X, most Y) :- s(X, Y), Y < 9. n(X) :- m(X, Y), not s(Y, X).",
		"a(X) :- r(X), not b(X). b(X) :- q(X, X), not c(X). c(X) :- q(X, Y), r(Y), X < Y.",
		"z() :- not y(). y() :- r(X), not q(X, X). w(X, X, 2) :- z(), r(X). v(0) :- w(X, Y, Z), Y <= 1.",
		"s(sum Y) :- q(X, Z), Z * 500000 = Y. u() :- not s(500000).",
		roads,
	}
}

// draw numbers for facts at random; the same each time.
type draw uint64

func (d *draw) n(n int) int {
	*d = *d*6364136223846793005 + 1442695040888963407
	return int(uint64(*d) >> 33 % uint64(n))
}

// facts of a program, some of them maybe twice, in no order.
func (d *draw) facts(p api.Program, most int) []api.Fact {
	var l []api.Fact
	for range d.n(most + 1) {
		f := api.Fact{Pred: d.n(len(p.Arity))}
		for range p.Arity[f.Pred] {
			f.Args = append(f.Args, d.n(3))
		}
		l = append(l, f)
	}
	return l
}

// among: facts by their texts.
func among(l []api.Fact) map[string]bool {
	keys := map[string]bool{}
	for _, f := range l {
		keys[fmt.Sprint(f)] = true
	}
	return keys
}

// words: the texts of facts for which something holds, in order.
func words(l []api.Fact, holds func(key string) bool) []string {
	var out []string
	for key := range among(l) {
		if holds(key) {
			out = append(out, key)
		}
	}
	slices.Sort(out)
	return out
}

// alike: is a list a set, and has it these texts?
func alike(l []api.Fact, want []string) bool {
	return fmt.Sprint(l) == fmt.Sprint(relation.Set(l)) && slices.Equal(words(l, func(string) bool { return true }), want)
}

// J1: what is given then, its model, what came and went, of any facts, told by texts.
func TestApplyOfAnyFacts(t *testing.T) {
	d := draw(1)
	came, went := 0, 0
	for _, s := range texts() {
		p := program(t, s)
		for range 80 {
			l, puts, takes := d.facts(p, 8), d.facts(p, 5), d.facts(p, 5)
			takes = append(takes, l[:d.n(len(l)+1)]...)
			m := modelOf(t, p, l)
			given, now, c, e := Apply(p, l, m, puts, takes)
			isPut, isTaken, isIn, wasIn := among(puts), among(takes), among(now), among(m)
			if e != api.OK || !alike(given, words(slices.Concat(l, puts), func(k string) bool { return isPut[k] || !isTaken[k] })) {
				t.Fatalf("Apply of %q, %v, %v, %v: %v %d", s, l, puts, takes, given, e)
			}
			if fmt.Sprint(now) != fmt.Sprint(modelOf(t, p, given)) {
				t.Fatalf("Apply of %q, %v, %v, %v: model %v", s, l, puts, takes, now)
			}
			if !alike(c.Came, words(now, func(k string) bool { return !wasIn[k] })) || !alike(c.Went, words(m, func(k string) bool { return !isIn[k] })) {
				t.Fatalf("Apply of %q, %v, %v, %v: %v", s, l, puts, takes, c)
			}
			came += min(len(c.Came), 1)
			went += min(len(c.Went), 1)
		}
	}
	if came < 200 || went < 200 {
		t.Errorf("%d came, %d went", came, went)
	}
}

// J3: changes that are played, one by one, lead from one model to the next, and those back to where it was.
func TestPlayOfAnyChanges(t *testing.T) {
	d := draw(2)
	for _, s := range texts() {
		p := program(t, s)
		for range 20 {
			l := d.facts(p, 8)
			m := modelOf(t, p, l)
			played := m
			models := [][]api.Fact{m}
			var back []api.Change
			for range 5 {
				given, now, c, e := Apply(p, l, m, d.facts(p, 3), append(d.facts(p, 3), l[:len(l)/2]...))
				_, was, b, g := Apply(p, given, now, l, given)
				if e != api.OK || g != api.OK || fmt.Sprint(was) != fmt.Sprint(m) {
					t.Fatalf("%q, %v: %d; back at %v: %d", s, l, e, was, g)
				}
				if played = Play(played, c); fmt.Sprint(played) != fmt.Sprint(now) {
					t.Fatalf("%q: %v is played to %v, not %v", s, c, played, now)
				}
				l, m = given, now
				models, back = append(models, now), append(back, b)
			}
			for i, b := range slices.Backward(back) {
				if played = Play(played, b); fmt.Sprint(played) != fmt.Sprint(models[i]) {
					t.Fatalf("%q: %v is played to %v, not %v", s, b, played, models[i])
				}
			}
		}
	}
}

// spare: a list with more behind it.
func spare[T any](l []T, more ...T) []T { return slices.Concat(l, more)[: len(l) : len(l)+len(more)] }

// handed: what calls are: a program; facts: l, m, puts, takes, what came, what went.
type handed struct {
	p     api.Program
	lists [6][]api.Fact
}

// handedIn: with spare room in the lists, and numbers of facts in one list that others have too.
func handedIn(t *testing.T) handed {
	p := program(t, "a(X) :- b(X), not c(X). n(count X) :- a(X).")
	h := handed{p: api.Program{Arity: spare(p.Arity, 9), Names: spare(p.Names, "Z"), Rules: spare(p.Rules, api.Rule{Pred: -3})}}
	for i, s := range list("b3 c2 b1 b2 b3", "n2 c2 b3 a1 a3 b1 b2 b2", "c1 b4 b4 c2", "b3 c2 c7 b3", "b8 b1", "a1 n2") {
		l := facts(t, p, s)
		for j := range l {
			l[j].Args = spare(l[j].Args, 50, 51)
			if j > 0 && l[j].Args[0] == l[0].Args[0] {
				l[j].Args = l[0].Args
			}
		}
		h.lists[i] = spare(l, f(1, 90+i), f(1, 80+i), f(1, 70+i), f(1, 60+i))
	}
	return h
}

// room: all that is handed, what is spare too.
func (h handed) room() string {
	s := fmt.Sprint(h.p.Arity[:cap(h.p.Arity)], h.p.Names[:cap(h.p.Names)], h.p.Rules[:cap(h.p.Rules)])
	for _, l := range h.lists {
		s += fmt.Sprint(l[:cap(l)])
		for _, f := range l {
			s += fmt.Sprint(f.Args[:cap(f.Args)])
		}
	}
	return s
}

// answers of Apply, and of Play, if they are right.
func (h handed) answers(t *testing.T) [][][]api.Fact {
	given, m, c, e := Apply(h.p, h.lists[0], h.lists[1], h.lists[2], h.lists[3])
	played := Play(h.lists[1], api.Change{Came: h.lists[4], Went: h.lists[5]})
	p := h.p
	got := list(told(p, given), told(p, m), told(p, c.Came), told(p, c.Went), told(p, played))
	if !slices.Equal(got, list("b1 b2 b4 c1 c2", "a4 b1 b2 b4 c1 c2 n1", "a4 b4 c1 n1", "a1 a3 b3 n2", "a3 b1 b2 b3 b8 c2")) || e != api.OK {
		t.Errorf("answers are %q %d", got, e)
	}
	return list(list(given, m, c.Came, c.Went), list(played))
}

// P2: what is handed in is only read, spare room too, and an answer does not change with it.
func TestOnlyReads(t *testing.T) {
	h := handedIn(t)
	got := h.answers(t)
	if now, was := h.room(), handedIn(t).room(); now != was {
		t.Errorf("what was handed in is %s, was %s", now, was)
	}
	was := fmt.Sprint(got)
	for _, l := range h.lists {
		for _, f := range l[:cap(l)] {
			clear(f.Args[:cap(f.Args)])
		}
		clear(l[:cap(l)])
	}
	if now := fmt.Sprint(got); now != was {
		t.Errorf("answers are %s, were %s", now, was)
	}
}

// P2: no two lists of an answer share memory, nor does one with what was handed in.
func TestAnswersAreTheCallers(t *testing.T) {
	h := handedIn(t)
	for _, answer := range h.answers(t) {
		all := slices.Concat(answer...)
		for i, f := range all {
			for k := range f.Args[:cap(f.Args)] {
				f.Args[:cap(f.Args)][k] = 1000 + i
			}
		}
		for i, f := range all {
			if slices.ContainsFunc(f.Args[:cap(f.Args)], func(n int) bool { return n != 1000+i }) {
				t.Errorf("lists share memory: %v", answer)
			}
		}
		for i, l := range answer {
			for k := range l[:cap(l)] {
				l[:cap(l)][k] = api.Fact{Pred: 1000 + i}
			}
		}
		for i, l := range answer {
			if slices.ContainsFunc(l[:cap(l)], func(f api.Fact) bool { return f.Pred != 1000+i }) {
				t.Errorf("lists share memory: %v", answer)
			}
		}
	}
	h.answers(t)
	if now, was := h.room(), handedIn(t).room(); now != was {
		t.Errorf("what was handed in is %s, was %s", now, was)
	}
}

// P3: the same each time, whatever was asked between, and whatever was done with an answer.
func TestSameEachTime(t *testing.T) {
	var first []string
	for range 3 {
		d := draw(3)
		var now []string
		for _, s := range texts() {
			p := program(t, s)
			for range 10 {
				l := d.facts(p, 8)
				m, _ := model.Model(p, l)
				given, n, c, e := Apply(p, l, m, d.facts(p, 3), d.facts(p, 3))
				played := Play(l, c)
				now = append(now, fmt.Sprint(given, n, c, e, played))
				for _, l := range list(given, n, c.Came, c.Went, played) {
					clear(l)
				}
			}
		}
		if first == nil {
			first = now
		}
		if !slices.Equal(first, now) {
			t.Errorf("answers are %v, were %v", now, first)
		}
	}
}
