package rule

import (
	"fmt"
	"reflect"
	"slices"
	"testing"

	"groundwork/api"
	"groundwork/relation"
	"groundwork/scope"
)

// draw numbers for rules that are put together at random; the same each time.
type draw uint64

func (d *draw) n(n int) int {
	*d = *d*6364136223846793005 + 1442695040888963407
	return int(uint64(*d) >> 33 % uint64(n))
}

// arity of the predicates of rules at random.
var arity = []int{2, 1, 2, 3, 0}

// terms of a rule with so many variables.
func (d *draw) terms(many, vars int) []api.Term {
	var l []api.Term
	for range many {
		t := api.Term{Var: -1, N: d.n(4) - 1}
		if vars > 0 && d.n(9) > 0 {
			t = api.Term{Var: d.n(vars)}
		}
		l = append(l, t)
	}
	return l
}

func (d *draw) lit(vars int) api.Lit {
	pred := d.n(len(arity))
	fact := api.Lit{Kind: api.LitYes, Pred: pred, Terms: d.terms(arity[pred], vars)}
	switch d.n(6) {
	case 0:
		fact.Kind = api.LitNot
	case 1:
		return api.Lit{Kind: api.LitTest, Op: api.OpLess + d.n(4), Terms: d.terms(2, vars)}
	case 2:
		return api.Lit{Kind: api.LitCalc, Op: api.OpAdd + d.n(3), Terms: d.terms(3, vars)}
	}
	return fact
}

// program with one rule, safe, with at most three variables.
func (d *draw) program() api.Program {
	p := api.Program{Arity: slices.Clone(arity), Names: list("a", "b", "c", "d", "e")}
	vars := d.n(4)
	for {
		r := api.Rule{Pred: d.n(len(arity)), Vars: vars}
		r.Terms = d.terms(arity[r.Pred], r.Vars)
		for range d.n(api.MaxBody) + 1 {
			r.Body = append(r.Body, d.lit(r.Vars))
		}
		if len(r.Terms) > 0 {
			r.Fold = d.n(5)
		}
		p.Rules = list(r)
		if scope.Check(p) == api.OK {
			return p
		}
	}
}

func (d *draw) facts(most int) []api.Fact {
	var l []api.Fact
	for range d.n(most + 1) {
		f := api.Fact{Pred: d.n(len(arity))}
		for range arity[f.Pred] {
			f.Args = append(f.Args, d.n(4)-1)
		}
		l = append(l, f)
	}
	return l
}

// mixed: the same facts in another order, some of them twice.
func (d *draw) mixed(l []api.Fact) []api.Fact {
	l = append(slices.Clone(l), l[:len(l)/2]...)
	for i := range l {
		j := d.n(i + 1)
		l[i], l[j] = l[j], l[i]
	}
	return l
}

// numbers of terms, with some for variables.
func numbers(terms []api.Term, vars []int) []int {
	var l []int
	for _, t := range terms {
		if t.Var == -1 {
			l = append(l, t.N)
		} else {
			l = append(l, vars[t.Var])
		}
	}
	return l
}

// holds: does a literal, with numbers for variables and facts by their texts?
func holds(l api.Lit, vars []int, there map[string]bool) bool {
	n := numbers(l.Terms, vars)
	switch l.Kind*10 + l.Op {
	case api.LitYes * 10:
		return there[text(api.Fact{Pred: l.Pred, Args: n})]
	case api.LitNot * 10:
		return !there[text(api.Fact{Pred: l.Pred, Args: n})]
	case api.LitTest*10 + api.OpLess:
		return n[0] < n[1]
	case api.LitTest*10 + api.OpMost:
		return !(n[0] > n[1])
	case api.LitTest*10 + api.OpSame:
		return n[0] == n[1]
	case api.LitTest*10 + api.OpOther:
		return n[0] != n[1]
	case api.LitCalc*10 + api.OpAdd:
		return n[2]-n[1] == n[0]
	case api.LitCalc*10 + api.OpSub:
		return n[2]+n[1] == n[0]
	}
	return n[0]*n[1] == n[2]
}

func allHold(r api.Rule, vars []int, there map[string]bool) bool {
	for _, l := range r.Body {
		if !holds(l, vars, there) {
			return false
		}
	}
	return true
}

func among(l []api.Fact) map[string]bool {
	there := map[string]bool{}
	for _, f := range l {
		there[text(f)] = true
	}
	return there
}

// far: numbers up to which all are tried; ways of rules at random go no farther.
const far = 9

// tried: of all numbers that are not too far, in order, those with which a rule's literals hold.
func tried(r api.Rule, there map[string]bool) [][]int {
	all := [][]int{{}}
	for range r.Vars {
		var longer [][]int
		for _, l := range all {
			for n := -far; n <= far; n++ {
				longer = append(longer, append(slices.Clone(l), n))
			}
		}
		all = longer
	}
	return slices.DeleteFunc(all, func(vars []int) bool { return !allHold(r, vars, there) })
}

// G1: of each way each literal holds, and numbers of which all hold are a way: by trying them all.
func TestWaysOfAnyRule(t *testing.T) {
	d := draw(1)
	some := 0
	for range 1500 {
		p, l := d.program(), d.facts(40)
		r, there := p.Rules[0], among(l)
		ways, e := Ways(p, 0, l)
		if e != api.OK {
			t.Fatalf("Ways(%v, %v) = %d", p, l, e)
		}
		for i, w := range ways {
			if len(w) != r.Vars || !allHold(r, w, there) || i > 0 && slices.Compare(ways[i-1], w) >= 0 {
				t.Fatalf("Ways(%v, %v) = %v: way %d", p, l, ways, i)
			}
		}
		some += min(len(ways), 1)
		if want := tried(r, there); text(ways) != text(want) {
			t.Fatalf("Ways(%v, %v) = %v, want %v", p, l, ways, want)
		}
		if again, e := Ways(p, 0, d.mixed(l)); text(again) != text(ways) || e != api.OK {
			t.Fatalf("Ways(%v, %v) = %v %d, were %v", p, l, again, e, ways)
		}
	}
	if some < 300 || some > 1200 {
		t.Errorf("%d rules have ways", some)
	}
}

// fold of the last numbers of a group.
func fold(kind int, l []int) (int, bool) {
	slices.Sort(l)
	n := 0
	for _, k := range l {
		n += k
	}
	return list(0, len(l), n, l[0], l[len(l)-1])[kind], n >= -api.MaxNumber && n <= api.MaxNumber || kind != api.FoldSum
}

// heads of a rule by its ways, put together by the texts of what they have in common.
func heads(r api.Rule, ways [][]int) []api.Fact {
	var out []api.Fact
	groups := map[string][]int{}
	keys := map[string][]int{}
	for _, w := range ways {
		n := numbers(r.Terms, w)
		if r.Fold == api.FoldNone {
			out = append(out, api.Fact{Pred: r.Pred, Args: n})
			continue
		}
		key := text(n[:len(n)-1])
		keys[key] = n[:len(n)-1]
		groups[key] = append(groups[key], n[len(n)-1])
	}
	for k, l := range groups {
		if n, ok := fold(r.Fold, l); ok {
			out = append(out, api.Fact{Pred: r.Pred, Args: append(slices.Clone(keys[k]), n)})
		}
	}
	return relation.Set(out)
}

// G2: the heads of any rule by its ways.
func TestHeadsOfAnyRule(t *testing.T) {
	d := draw(2)
	found := [5]int{}
	for range 5000 {
		p, l := d.program(), d.facts(40)
		r := p.Rules[0]
		ways, e := Ways(p, 0, l)
		got, g := Heads(p, 0, l)
		if e != g {
			t.Fatalf("of %v, %v: %d %d", p, l, e, g)
		}
		if e == api.OK && len(ways) > 1 {
			found[r.Fold]++
		}
		if want := heads(r, ways); text(got) != text(want) {
			t.Fatalf("Heads(%v, %v) = %v, want %v", p, l, got, want)
		}
		for _, f := range got {
			if e := scope.Fact(p, f); e != api.OK {
				t.Fatalf("Heads(%v, %v) = %v: %d", p, l, got, e)
			}
		}
	}
	if slices.Min(found[:]) < 80 {
		t.Errorf("rules by folds: %v", found)
	}
}

// G3: with more facts a rule without LitNot has all ways that it had; without a fold, all heads too.
func TestMoreFacts(t *testing.T) {
	d := draw(3)
	more := 0
	for range 3000 {
		p, l := d.program(), d.facts(30)
		r := p.Rules[0]
		if slices.ContainsFunc(r.Body, func(l api.Lit) bool { return l.Kind == api.LitNot }) {
			continue
		}
		all := append(slices.Clone(l), d.facts(30)...)
		was, e := Ways(p, 0, l)
		now, g := Ways(p, 0, all)
		if e != api.OK || g != api.OK {
			t.Fatalf("of %v, %v, %v: %d %d", p, l, all, e, g)
		}
		for _, w := range was {
			if !slices.ContainsFunc(now, func(v []int) bool { return slices.Equal(v, w) }) {
				t.Fatalf("%v: %v has %v, %v has not", p, l, w, all)
			}
		}
		more += min(len(now)-len(was), 1)
		before, _ := Heads(p, 0, l)
		after, _ := Heads(p, 0, all)
		if r.Fold == api.FoldNone && len(relation.Minus(before, after)) > 0 {
			t.Fatalf("%v: %v has %v, %v has %v", p, l, before, all, after)
		}
	}
	if more < 300 {
		t.Errorf("%d rules have more ways", more)
	}
}

// spare: a list with more behind it.
func spare[T any](l []T, more ...T) []T { return slices.Concat(l, more)[: len(l) : len(l)+len(more)] }

// roomy: a program and facts, with spare room in their lists: a(X, sum Y) :- b(X, Y), not c(Y), X + Y = Z, and one more rule.
func roomy() (api.Program, []api.Fact) {
	x, y, z := api.Term{}, api.Term{Var: 1}, api.Term{Var: 2}
	odd := api.Term{Var: 77, N: 77}
	body := list(
		api.Lit{Kind: api.LitYes, Pred: 1, Terms: spare(list(x, y), odd, odd)},
		api.Lit{Kind: api.LitNot, Pred: 2, Terms: spare(list(y), odd)},
		api.Lit{Kind: api.LitCalc, Op: api.OpAdd, Terms: spare(list(x, y, z), odd)},
	)
	terms := spare(list(x, y), odd, odd)
	r := api.Rule{Terms: terms, Fold: api.FoldSum, Body: spare(body, api.Lit{Kind: 99}, api.Lit{Kind: 98}), Vars: 3}
	one := r
	one.Fold = api.FoldNone
	p := api.Program{Arity: spare(list(2, 2, 1), 5), Names: spare(list("a", "b", "c"), "Z"), Rules: spare(list(r, one), api.Rule{Pred: -5})}
	l := list(f(1, 5, 2), f(1, 1, 3), f(1, 1, 2), f(2, 4), f(1, 5, 2), f(1, 6, 4))
	for i := range l {
		l[i].Args = spare(l[i].Args, 50, 51)
	}
	return p, spare(l, f(1, 9, 9), f(1, 8, 8), f(1, 7, 7))
}

// room: all of a program and facts, what is spare too.
func room(p api.Program, l []api.Fact) string {
	s := fmt.Sprint(p.Arity[:cap(p.Arity)], p.Names[:cap(p.Names)], p.Rules[:cap(p.Rules)], l[:cap(l)])
	for _, r := range p.Rules {
		s += fmt.Sprint(r.Terms[:cap(r.Terms)], r.Body[:cap(r.Body)])
		for _, b := range r.Body {
			s += fmt.Sprint(b.Terms[:cap(b.Terms)])
		}
	}
	for _, f := range l {
		s += fmt.Sprint(f.Args[:cap(f.Args)])
	}
	return s
}

// P2: what is handed in is only read, spare room too.
func TestOnlyReads(t *testing.T) {
	p, l := roomy()
	for rule := range p.Rules {
		ways, e := Ways(p, rule, l)
		if text(ways) != "[[1 2 3] [1 3 4] [5 2 7]]" || e != api.OK {
			t.Errorf("Ways are %v %d", ways, e)
		}
		heads, e := Heads(p, rule, l)
		if text(heads) != list("[{0 [1 5]} {0 [5 2]}]", "[{0 [1 2]} {0 [1 3]} {0 [5 2]}]")[rule] || e != api.OK {
			t.Errorf("Heads are %v %d", heads, e)
		}
	}
	if now, was := room(p, l), room(roomy()); now != was {
		t.Errorf("what was handed in is %s, was %s", now, was)
	}
}

// P2: an answer does not change with what was handed in, nor the other way; no two lists of it share memory.
func TestAnswersAreTheCallers(t *testing.T) {
	p, l := roomy()
	for rule := range p.Rules {
		ways, _ := Ways(p, rule, l)
		heads, _ := Heads(p, rule, l)
		wrote := 0
		var lists [][]int
		lists = append(lists, ways...)
		for _, f := range heads {
			lists = append(lists, f.Args)
		}
		for _, n := range lists {
			wrote++
			for i := range n[:cap(n)] {
				n[:cap(n)][i] = 1000 + wrote
			}
		}
		for i, n := range lists {
			if slices.ContainsFunc(n[:cap(n)], func(k int) bool { return k != 1001+i }) {
				t.Errorf("lists share memory: %v %v", ways, heads)
			}
		}
		clear(ways[:cap(ways)])
		clear(heads[:cap(heads)])
	}
	if now, was := room(p, l), room(roomy()); now != was {
		t.Errorf("what was handed in is %s, was %s", now, was)
	}
	for rule := range p.Rules {
		p, l := roomy()
		ways, _ := Ways(p, rule, l)
		heads, _ := Heads(p, rule, l)
		was := text(ways) + text(heads)
		for _, f := range l {
			clear(f.Args[:cap(f.Args)])
		}
		clear(l[:cap(l)])
		for _, r := range p.Rules {
			clear(r.Terms[:cap(r.Terms)])
			clear(r.Body[:cap(r.Body)])
		}
		clear(p.Rules)
		if now := text(ways) + text(heads); now != was {
			t.Errorf("answers are %s, were %s", now, was)
		}
	}
}

// P3: the same each time, whatever was asked between, and whatever was done with an answer.
func TestSameEachTime(t *testing.T) {
	var first []any
	for range 3 {
		d := draw(4)
		var now []any
		for range 200 {
			p, l := d.program(), d.facts(20)
			ways, e := Ways(p, 0, l)
			heads, g := Heads(p, 0, l)
			now = append(now, text(ways), e, text(heads), g)
			for _, w := range ways {
				clear(w)
			}
			clear(heads)
		}
		if first == nil {
			first = now
		}
		if !reflect.DeepEqual(first, now) {
			t.Errorf("answers are %v, were %v", now, first)
		}
	}
}
