package model

import (
	"fmt"
	"reflect"
	"slices"
	"testing"

	"groundwork/api"
	"groundwork/relation"
	"groundwork/rule"
	"groundwork/scope"
	"groundwork/strata"
)

// draw numbers for programs that are put together at random; the same each time.
type draw uint64

func (d *draw) n(n int) int {
	*d = *d*6364136223846793005 + 1442695040888963407
	return int(uint64(*d) >> 33 % uint64(n))
}

// arity of the predicates of programs at random.
var arity = []int{1, 2, 1, 2, 0, 1}

// terms of a rule with so many variables.
func (d *draw) terms(many, vars int) []api.Term {
	var l []api.Term
	for range many {
		t := api.Term{Var: -1, N: d.n(3)}
		if vars > 0 && d.n(9) > 0 {
			t = api.Term{Var: d.n(vars)}
		}
		l = append(l, t)
	}
	return l
}

func (d *draw) lit(vars int) api.Lit {
	pred := d.n(len(arity))
	fact := api.Lit{Kind: api.LitYes, Pred: pred, Terms: d.terms(arity[pred], vars)}
	switch d.n(7) {
	case 0:
		fact.Kind = api.LitNot
	case 1:
		return api.Lit{Kind: api.LitTest, Op: api.OpLess + d.n(4), Terms: d.terms(2, vars)}
	case 2:
		return api.Lit{Kind: api.LitCalc, Op: api.OpAdd + d.n(3), Terms: d.terms(3, vars)}
	}
	return fact
}

func (d *draw) rule() api.Rule {
	r := api.Rule{Pred: d.n(len(arity)), Vars: d.n(4)}
	r.Terms = d.terms(arity[r.Pred], r.Vars)
	for range d.n(3) + 1 {
		r.Body = append(r.Body, d.lit(r.Vars))
	}
	if len(r.Terms) > 0 && d.n(4) == 0 {
		r.Fold = d.n(4) + 1
	}
	return r
}

// program that has levels, rule by rule.
func (d *draw) program() api.Program {
	p := api.Program{Arity: slices.Clone(arity), Names: list("a", "b", "c", "d", "e", "g")}
	for many := d.n(8); len(p.Rules) < many; {
		q := p
		q.Rules = append(slices.Clone(p.Rules), d.rule())
		if _, e := strata.Levels(q); e == api.OK {
			p = q
		}
	}
	return p
}

func (d *draw) facts(most int) []api.Fact {
	var l []api.Fact
	for range d.n(most + 1) {
		f := api.Fact{Pred: d.n(len(arity))}
		for range arity[f.Pred] {
			f.Args = append(f.Args, d.n(3))
		}
		l = append(l, f)
	}
	return l
}

// mixed: the same facts in another order, some of them twice.
func (d *draw) mixed(l []api.Fact) []api.Fact {
	l = append(slices.Clone(l), l[:min(len(l)/2, api.MaxFacts-len(l))]...)
	for i := range l {
		j := d.n(i + 1)
		l[i], l[j] = l[j], l[i]
	}
	return l
}

// heads of the rules of a program that are asked for, with facts that are not too many.
func heads(t *testing.T, p api.Program, l []api.Fact, asked func(api.Rule) bool) []api.Fact {
	var all []api.Fact
	for i, r := range p.Rules {
		if !asked(r) {
			continue
		}
		h, e := rule.Heads(p, i, l)
		if e != api.OK {
			t.Fatalf("Heads(%v, %d, %v) = %d", p, i, l, e)
		}
		all = append(all, h...)
	}
	return all
}

func whichever(api.Rule) bool { return true }

// within: are all of some facts among others?
func within(l, m []api.Fact) bool { return len(relation.Minus(l, m)) == 0 }

// most: of more facts than these not each choice of them is tried.
const most = 8

// less: is there a level of which fewer facts, with those that are given and all of the levels ahead, have all heads of its rules among them?
func less(t *testing.T, p api.Program, l, m []api.Fact) bool {
	levels, _ := strata.Levels(p)
	for level := range levels {
		base, more := slices.Clone(l), []api.Fact(nil)
		for _, f := range relation.Minus(m, l) {
			if levels[f.Pred] < level {
				base = append(base, f)
			}
			if levels[f.Pred] == level {
				more = append(more, f)
			}
		}
		if len(more) > most {
			continue
		}
		for choice := range 1<<len(more) - 1 {
			some := slices.Clone(base)
			for i, f := range more {
				if choice>>i&1 == 1 {
					some = append(some, f)
				}
			}
			if within(heads(t, p, relation.Set(some), func(r api.Rule) bool { return levels[r.Pred] == level }), some) {
				return true
			}
		}
	}
	return false
}

// H1, H2, H3: a model has all that is given, and all heads; each of its facts is given, or a head; and no fewer facts would do.
func TestModelOfAnyProgram(t *testing.T) {
	d := draw(1)
	models, grew := 0, 0
	for range 1500 {
		p, l := d.program(), d.facts(12)
		m, e := Model(p, l)
		if e == api.ErrMany {
			continue
		}
		models++
		grew += min(len(relation.Minus(m, l)), 1)
		all := heads(t, p, m, whichever)
		if e != api.OK || !reflect.DeepEqual(m, relation.Set(m)) && len(m) > 0 {
			t.Fatalf("Model(%v, %v) = %v %d", p, l, m, e)
		}
		if !within(l, m) || !within(all, m) || !within(m, append(all, l...)) || less(t, p, l, m) {
			t.Fatalf("Model(%v, %v) = %v", p, l, m)
		}
		for _, f := range m {
			if e := scope.Fact(p, f); e != api.OK {
				t.Fatalf("Model(%v, %v) = %v: %d", p, l, m, e)
			}
		}
		if again, e := Model(p, d.mixed(l)); text(again) != text(m) || e != api.OK {
			t.Fatalf("Model(%v, %v) = %v %d, was %v", p, l, again, e, m)
		}
	}
	if models < 1000 || grew < 400 {
		t.Errorf("%d models, %d of them grew", models, grew)
	}
}

// H2: the model, in whatever order, and nothing else.
func TestIsOfAnyProgram(t *testing.T) {
	d := draw(2)
	for range 500 {
		p, l := d.program(), d.facts(12)
		m, e := Model(p, l)
		if is, g := Is(p, l, d.mixed(m)); is != (e == api.OK) || g != e {
			t.Fatalf("Is(%v, %v, %v) = %v %d", p, l, m, is, g)
		}
		if e != api.OK {
			continue
		}
		for i := range m {
			less := slices.Delete(slices.Clone(m), i, i+1)
			if is, e := Is(p, l, less); is || e != api.OK {
				t.Fatalf("Is(%v, %v, %v) = %v %d", p, l, less, is, e)
			}
		}
		for _, f := range relation.Minus(d.facts(5), m) {
			if len(m) == api.MaxFacts {
				break
			}
			if is, e := Is(p, l, with(m, f)); is || e != api.OK {
				t.Fatalf("Is(%v, %v, %v and %v) = %v %d", p, l, m, f, is, e)
			}
		}
	}
}

// H2, H3: what is asked is what of the model matches; of the focus of a predicate it is the same.
func TestAskOfAnyProgram(t *testing.T) {
	d := draw(3)
	asked := 0
	for range 500 {
		p, l := d.program(), d.facts(12)
		m, e := Model(p, l)
		for pred := range p.Arity {
			args := list(d.n(3), d.n(3))[:p.Arity[pred]]
			bound := list(d.n(2) == 0, d.n(2) == 0)[:d.n(3)]
			got, g := Ask(p, l, pred, args, bound)
			if text(got) != text(relation.Match(m, pred, args, bound)) || g != e {
				t.Fatalf("Ask(%v, %v, %d, %v, %v) = %v %d", p, l, pred, args, bound, got, g)
			}
			if e != api.OK {
				continue
			}
			asked += min(len(got), 1)
			q, _ := strata.Focus(p, pred)
			if again, e := Ask(q, l, pred, args, bound); text(again) != text(got) || e != api.OK {
				t.Fatalf("Ask(%v, %v, %d, %v, %v) = %v %d, of all %v", q, l, pred, args, bound, again, e, got)
			}
		}
	}
	if asked < 500 {
		t.Errorf("%d answers", asked)
	}
}

// spare: a list with more behind it.
func spare[T any](l []T, more ...T) []T { return slices.Concat(l, more)[: len(l) : len(l)+len(more)] }

// handed: what calls are.
type handed struct {
	p     api.Program
	l, m  []api.Fact
	args  []int
	bound []bool
}

// roomy: with spare room in the lists; the program is a(X) :- b(X), not c(X), and e(count X) :- a(X), each fact twice.
func roomy() handed {
	x, odd := api.Term{}, api.Term{Var: 77, N: 77}
	terms := func() []api.Term { return spare(list(x), odd, odd) }
	first := api.Rule{Terms: terms(), Vars: 1, Body: spare(list(
		api.Lit{Kind: api.LitYes, Pred: 1, Terms: terms()},
		api.Lit{Kind: api.LitNot, Pred: 2, Terms: terms()},
	), api.Lit{Kind: 99})}
	second := api.Rule{Pred: 3, Terms: terms(), Fold: api.FoldCount, Vars: 1, Body: spare(list(api.Lit{Kind: api.LitYes, Terms: terms()}), api.Lit{Kind: 99})}
	h := handed{
		p:     api.Program{Arity: spare(list(1, 1, 1, 1), 9), Names: spare(list("a", "b", "c", "e"), "Z"), Rules: spare(list(first, second), api.Rule{Pred: -3})},
		args:  spare(list(2), 5, 6),
		bound: spare(list(false), true, true),
	}
	given := list(f(1, 3), f(2, 2), f(1, 2), f(1, 1), f(1, 3))
	h.l = spare(roomyFacts(given), many(1, 50, 10)...)
	h.m = spare(roomyFacts(slices.Concat(list(f(3, 2), f(0, 3), f(0, 1)), given)), many(1, 60, 10)...)
	return h
}

// roomyFacts: facts whose numbers have spare room.
func roomyFacts(l []api.Fact) []api.Fact {
	l = slices.Clone(l)
	for i := range l {
		l[i].Args = spare(l[i].Args, 40, 41)
	}
	return l
}

// room: all that is handed, what is spare too.
func (h handed) room() string {
	s := fmt.Sprint(h.p.Arity[:cap(h.p.Arity)], h.p.Names[:cap(h.p.Names)], h.p.Rules[:cap(h.p.Rules)], h.l[:cap(h.l)], h.m[:cap(h.m)], h.args[:cap(h.args)], h.bound[:cap(h.bound)])
	for _, r := range h.p.Rules {
		s += fmt.Sprint(r.Terms[:cap(r.Terms)], r.Body[:cap(r.Body)])
		for _, b := range r.Body {
			s += fmt.Sprint(b.Terms[:cap(b.Terms)])
		}
	}
	for _, f := range slices.Concat(h.l, h.m) {
		s += fmt.Sprint(f.Args[:cap(f.Args)])
	}
	return s
}

// answers of Model and Ask, if all are right.
func (h handed) answers(t *testing.T) [][]api.Fact {
	m, e := Model(h.p, h.l)
	is, g := Is(h.p, h.l, h.m)
	a, k := Ask(h.p, h.l, 1, h.args, h.bound)
	if text(m) != "[{0 [1]} {0 [3]} {1 [1]} {1 [2]} {1 [3]} {2 [2]} {3 [2]}]" || !is || text(a) != "[{1 [1]} {1 [2]} {1 [3]}]" || e != api.OK || g != api.OK || k != api.OK {
		t.Errorf("answers are %v %d, %v %d, %v %d", m, e, is, g, a, k)
	}
	return list(m, a)
}

// P2: what is handed in is only read, spare room too, and an answer does not change with it.
func TestOnlyReads(t *testing.T) {
	h := roomy()
	got := h.answers(t)
	if now, was := h.room(), roomy().room(); now != was {
		t.Errorf("what was handed in is %s, was %s", now, was)
	}
	was := text(got)
	for _, l := range list(h.l[:cap(h.l)], h.m[:cap(h.m)]) {
		for _, f := range l {
			clear(f.Args[:cap(f.Args)])
		}
		clear(l)
	}
	for _, r := range h.p.Rules {
		clear(r.Terms)
		clear(r.Body)
	}
	clear(h.p.Rules)
	if now := text(got); now != was {
		t.Errorf("answers are %s, were %s", now, was)
	}
}

// P2: no two lists of an answer share memory, nor does one with what was handed in.
func TestAnswersAreTheCallers(t *testing.T) {
	h := roomy()
	for _, l := range h.answers(t) {
		for i, f := range l {
			for k := range f.Args[:cap(f.Args)] {
				f.Args[:cap(f.Args)][k] = 1000 + i
			}
		}
		for i, f := range l {
			if slices.ContainsFunc(f.Args[:cap(f.Args)], func(n int) bool { return n != 1000+i }) {
				t.Errorf("lists share memory: %v", l)
			}
		}
		clear(l[:cap(l)])
	}
	h.answers(t)
	if now, was := h.room(), roomy().room(); now != was {
		t.Errorf("what was handed in is %s, was %s", now, was)
	}
}

// P3: the same each time, whatever was asked between, and whatever was done with an answer.
func TestSameEachTime(t *testing.T) {
	var first []string
	for range 3 {
		d := draw(4)
		var now []string
		for range 100 {
			p, l := d.program(), d.facts(12)
			m, e := Model(p, l)
			is, g := Is(p, l, l)
			a, h := Ask(p, l, d.n(6), list(d.n(3)), list(d.n(2) == 0))
			now = append(now, fmt.Sprint(m, e, is, g, a, h))
			clear(m)
			clear(a)
		}
		if first == nil {
			first = now
		}
		if !slices.Equal(first, now) {
			t.Errorf("answers are %v, were %v", now, first)
		}
	}
}
