package strata

import (
	"math"
	"reflect"
	"slices"
	"strings"
	"testing"

	"groundwork/api"
	"groundwork/scope"
)

// draw numbers for programs that are put together at random; the same each time.
type draw uint64

func (d *draw) n(n int) int {
	*d = *d*6364136223846793005 + 1442695040888963407
	return int(uint64(*d) >> 33 % uint64(n))
}

func list[T any](l ...T) []T { return l }

func number(n int) api.Term { return api.Term{Var: -1, N: n} }

// program of a text.
func program(t *testing.T, s string) api.Program {
	p, at, e := scope.Program(s)
	if e != api.OK {
		t.Fatalf("Program(%q) is wrong at %d: %d", s, at, e)
	}
	return p
}

// roads: the document's example; its predicates are road, toll, way, out, far.
const roads = "road(1, 2). road(2, 3). road(3, 1). toll(2)." +
	"way(X, Y) :- road(X, Y), not toll(Y)." +
	"way(X, Z) :- way(X, Y), road(Y, Z), not toll(Z)." +
	"out(X, count Y) :- way(X, Y)." +
	"far(X, N) :- out(X, M), M + 1 = N, N < 3."

// E1: the levels of texts; nil, if there are none.
func TestLevels(t *testing.T) {
	for _, c := range []struct {
		s    string
		want []int
	}{
		{"a().", list(0)},
		{"a(1). b(X) :- a(X).", list(0, 0)},
		{"b(X) :- a(X).", list(0, 0)},
		{roads, list(0, 0, 1, 2, 2)},
		// Strictly: by not, and by each fold.
		{"a() :- not b().", list(1, 0)},
		{"a(count X) :- b(X).", list(1, 0)},
		{"a(sum X) :- b(X).", list(1, 0)},
		{"a(least X) :- b(X).", list(1, 0)},
		{"a(most X) :- b(X).", list(1, 0)},
		{"a(most X) :- b(X), not c(X).", list(1, 0, 0)},
		{"a(most X) :- not c(X), b(X). c(X) :- d(X), not b(X).", list(2, 1, 0, 0)},
		// The same both ways, in one rule and in two.
		{"a() :- b(), not b().", list(1, 0)},
		{"a() :- not b(), b().", list(1, 0)},
		{"a() :- not b(). a() :- b().", list(1, 0)},
		{"a() :- b(). a() :- not b().", list(1, 0)},
		// The greatest of several.
		{"a() :- not b(), not c(), d(). c() :- not b(). d() :- c().", list(2, 0, 1, 1)},
		{"a() :- d(), not b(), not c(). c() :- not b(). d() :- not c().", list(2, 2, 0, 1)},
		// Round about, not strictly: as far as the greatest.
		{"a() :- a().", list(0)},
		{"a() :- b(). b() :- a().", list(0, 0)},
		{"a() :- b(). b() :- c(). c() :- a(), not d().", list(1, 1, 1, 0)},
		{"a() :- b(). b() :- not c(). c() :- not d(). d() :- e(). e() :- d().", list(2, 2, 1, 0, 0)},
		{"a(count X) :- b(X). b(X) :- c(X). c(X) :- b(X).", list(1, 0, 0)},
		// What is tested and reckoned is no predicate, though its Pred is 0.
		{"a(X) :- b(X), not c(X). c(X) :- d(X), X < 3. d(X) :- 1 + 2 = X.", list(1, 0, 0, 0)},
		{"a(count X) :- 1 + 2 = X.", list(0)},
		{"a(count X) :- 1 + 2 = X, X < 4. b(sum X) :- 1 * 2 = X, 2 != X.", list(0, 0)},
		{"a(X) :- b(X). b(sum X) :- 1 * 2 = X.", list(0, 0)},
		// Strictly round about.
		{"a() :- not a().", nil},
		{"a(count X) :- a(X).", nil},
		{"a(count X) :- b(X), a(X).", nil},
		{"a() :- a(), not a().", nil},
		{"a() :- not b(). b() :- c(). c() :- a().", nil},
		{"a() :- b(). b() :- c(). c() :- not a().", nil},
		{"a() :- b(). b() :- not c(). c() :- not a().", nil},
		{"a(X) :- b(X). b(least X) :- c(X). c(X) :- a(X).", nil},
		{"a(). b() :- a(). c() :- b(), not d(). d() :- c().", nil},
	} {
		p := program(t, c.s)
		e := api.OK
		if c.want == nil {
			e = api.ErrState
		}
		if got, f := Levels(p); !slices.Equal(got, c.want) || f != e {
			t.Errorf("Levels of %q: %v %d, want %v %d", c.s, got, f, c.want, e)
		}
	}
	for i, p := range list(api.Program{}, api.Program{Arity: []int{}, Names: []string{}, Rules: []api.Rule{}}) {
		if got, e := Levels(p); len(got) != 0 || e != api.OK {
			t.Errorf("empty program %d: %v %d", i, got, e)
		}
	}
}

// edge: what a predicate hangs on, by which kind of literal.
type edge struct{ from, to, kind int }

// chain: a program of so many predicates without terms, with a rule for each edge.
func chain(many int, edges ...edge) api.Program {
	p := api.Program{Arity: make([]int, many)}
	for i := range many {
		p.Names = append(p.Names, string(rune('a'+i)))
	}
	for _, e := range edges {
		p.Rules = append(p.Rules, api.Rule{Pred: e.from, Body: list(api.Lit{Kind: e.kind, Pred: e.to})})
	}
	return p
}

// E1: as many levels as there may be, rules from the last to the first and from the first to the last; and round about.
func TestLongChains(t *testing.T) {
	var edges []edge
	var want []int
	for i := range api.MaxPreds {
		want = append(want, api.MaxPreds-1-i)
		if i > 0 {
			edges = append(edges, edge{i - 1, i, api.LitNot})
		}
	}
	back := slices.Clone(edges)
	slices.Reverse(back)
	for _, l := range list(edges, back) {
		if got, e := Levels(chain(api.MaxPreds, l...)); !slices.Equal(got, want) || e != api.OK {
			t.Errorf("Levels of %v: %v %d, want %v", l, got, e, want)
		}
		for _, kind := range list(api.LitYes, api.LitNot) {
			round := append(slices.Clone(l), edge{api.MaxPreds - 1, 0, kind})
			if got, e := Levels(chain(api.MaxPreds, round...)); got != nil || e != api.ErrState {
				t.Errorf("Levels of %v: %v %d", round, got, e)
			}
		}
	}
	// All round about, and one of them strictly on one beside.
	p := chain(api.MaxPreds, edge{api.MaxPreds - 2, 0, api.LitYes}, edge{api.MaxPreds - 2, api.MaxPreds - 1, api.LitNot})
	for i := range api.MaxPreds - 2 {
		p.Rules = append(p.Rules, chain(api.MaxPreds, edge{i, i + 1, api.LitYes}).Rules...)
	}
	want = append(slices.Repeat(list(1), api.MaxPreds-1), 0)
	if got, e := Levels(p); !slices.Equal(got, want) || e != api.OK {
		t.Errorf("Levels round about: %v %d, want %v", got, e, want)
	}
}

// bools of a text: + for each that is true.
func bools(s string) []bool {
	var l []bool
	for _, c := range s {
		l = append(l, c == '+')
	}
	return l
}

// E1: what each predicate of a text needs, and the rules of its focus.
func TestNeedsAndFocus(t *testing.T) {
	for _, c := range []struct {
		s     string
		needs []string // of each predicate
		rules [][]int
	}{
		{"a().", list("+"), [][]int{{0}}},
		{roads, list("+----", "-+---", "+++--", "++++-", "+++++"), [][]int{{0, 1, 2}, {3}, {0, 1, 2, 3, 4, 5}, {0, 1, 2, 3, 4, 5, 6}, {0, 1, 2, 3, 4, 5, 6, 7}}},
		{"a() :- not b().", list("++", "-+"), [][]int{{0}, nil}},
		{"a(count X) :- b(X).", list("++", "-+"), [][]int{{0}, nil}},
		{"a(1). b(X) :- c(X). d(X) :- a(X), not b(X).", list("+---", "-++-", "--+-", "++++"), [][]int{{0}, {1}, nil, {0, 1, 2}}},
		{"a() :- b(). b() :- c(). c() :- d().", list("++++", "-+++", "--++", "---+"), [][]int{{0, 1, 2}, {1, 2}, {2}, nil}},
		{"c() :- d(). b() :- c(). a() :- b().", list("++--", "-+--", "+++-", "++++"), [][]int{{0}, nil, {0, 1}, {0, 1, 2}}},
		// Round about, strictly too: Needs and Focus ask for no levels.
		{"a() :- not b(). b() :- not a(). c() :- d().", list("++--", "++--", "--++", "---+"), [][]int{{0, 1}, {0, 1}, {2}, nil}},
		{"a() :- not a().", list("+"), [][]int{{0}}},
		// What is tested and reckoned is no predicate, though its Pred is 0.
		{"a(1). b(X) :- 1 + 2 = X, X < 3.", list("+-", "-+"), [][]int{{0}, {1}}},
		{"a(1). b(count X) :- 1 + 2 = X, X < 3.", list("+-", "-+"), [][]int{{0}, {1}}},
	} {
		p := program(t, c.s)
		for pred := range p.Arity {
			if got, e := Needs(p, pred); !slices.Equal(got, bools(c.needs[pred])) || e != api.OK {
				t.Errorf("Needs of %q, %d: %v %d, want %s", c.s, pred, got, e, c.needs[pred])
			}
			want := api.Program{Arity: p.Arity, Names: p.Names}
			for _, i := range c.rules[pred] {
				want.Rules = append(want.Rules, p.Rules[i])
			}
			if got, e := Focus(p, pred); !same(got, want) || e != api.OK {
				t.Errorf("Focus of %q, %d: %v %d, want %v", c.s, pred, got, e, want)
			}
		}
	}
}

// plain: a copy of a program whose empty lists are nil.
func plain(p api.Program) api.Program {
	bare := api.Program{Arity: append([]int(nil), p.Arity...), Names: append([]string(nil), p.Names...)}
	for _, r := range p.Rules {
		body := r.Body
		r.Terms, r.Body = append([]api.Term(nil), r.Terms...), nil
		for _, l := range body {
			l.Terms = append([]api.Term(nil), l.Terms...)
			r.Body = append(r.Body, l)
		}
		bare.Rules = append(bare.Rules, r)
	}
	return bare
}

// same: are programs? An empty list may be nil or not.
func same(p, q api.Program) bool { return reflect.DeepEqual(plain(p), plain(q)) }

// program at random, right, without variables; what is not a fact in it has a Pred of 0, which is no predicate's.
func (d *draw) program() api.Program {
	p := api.Program{}
	for i := range d.n(api.MaxPreds) + 1 {
		p.Arity = append(p.Arity, d.n(3))
		p.Names = append(p.Names, string(rune('a'+i)))
	}
	terms := func(many int) []api.Term { return slices.Repeat(list(number(d.n(3))), many) }
	for range d.n(api.MaxRules + 1) {
		r := api.Rule{Pred: d.n(len(p.Arity))}
		r.Terms = terms(p.Arity[r.Pred])
		for range d.n(3) {
			pred := d.n(len(p.Arity))
			// Mostly on those behind, so that some programs have levels.
			if d.n(8) > 0 {
				pred = max(pred, r.Pred)
			}
			fact := api.Lit{Kind: api.LitYes, Pred: pred, Terms: terms(p.Arity[pred])}
			if d.n(4) == 0 {
				fact.Kind = api.LitNot
			}
			test := api.Lit{Kind: api.LitTest, Op: api.OpLess, Terms: terms(2)}
			calc := api.Lit{Kind: api.LitCalc, Op: api.OpMul, Terms: terms(3)}
			r.Body = append(r.Body, list(fact, fact, fact, test, calc)[d.n(5)])
		}
		if len(r.Terms) > 0 && len(r.Body) > 0 && d.n(4) == 0 {
			r.Fold = d.n(4) + 1
		}
		p.Rules = append(p.Rules, r)
	}
	return p
}

// none: no way from one predicate to another.
const none = -1

// ways of a program: from each predicate to each, the most strict steps on a way of so many steps at most.
func ways(p api.Program, steps int) [][]int {
	n := len(p.Arity)
	most := make([][]int, n)
	for i := range most {
		most[i] = slices.Repeat(list(none), n)
		most[i][i] = 0
	}
	for range steps {
		next := make([][]int, n)
		for i := range next {
			next[i] = slices.Clone(most[i])
			for _, r := range p.Rules {
				for _, l := range r.Body {
					if most[i][r.Pred] == none || l.Kind > api.LitNot {
						continue
					}
					long := most[i][r.Pred]
					if l.Kind == api.LitNot || r.Fold != api.FoldNone {
						long++
					}
					next[i][l.Pred] = max(next[i][l.Pred], long)
				}
			}
		}
		most = next
	}
	return most
}

// E1: of any program: levels by the most strict steps on any way, none if some way comes back to itself with one; what is needed is what a way leads to.
func TestAnyProgram(t *testing.T) {
	d := draw(1)
	found := [2]int{}
	for range 3000 {
		p := d.program()
		if e := scope.Check(p); e != api.OK {
			t.Fatalf("Check(%v) = %d", p, e)
		}
		long := ways(p, 2*len(p.Arity))
		var want []int
		e := api.OK
		for pred := range p.Arity {
			if long[pred][pred] > 0 {
				e = api.ErrState
			}
			want = append(want, slices.Max(long[pred]))
		}
		if e != api.OK {
			want = nil
		}
		found[min(e, 1)]++
		if got, f := Levels(p); !slices.Equal(got, want) || f != e {
			t.Fatalf("Levels(%v) = %v %d, want %v %d", p, got, f, want, e)
		}
		for pred := range p.Arity {
			got, f := Needs(p, pred)
			for other := range p.Arity {
				if f != api.OK || len(got) != len(p.Arity) || got[other] != (long[pred][other] != none) {
					t.Fatalf("Needs(%v, %d) = %v %d", p, pred, got, f)
				}
			}
		}
	}
	if found[0] < 500 || found[1] < 500 {
		t.Errorf("%d programs with levels, %d without", found[0], found[1])
	}
}

// E1, E2: a focus has the rules of what is needed, in their order, and is right; focused twice it is focused once; what is needed, and its levels, are what they were.
func TestFocusOfAnyProgram(t *testing.T) {
	d := draw(2)
	for range 500 {
		p := d.program()
		levels, e := Levels(p)
		for pred := range p.Arity {
			needs, _ := Needs(p, pred)
			once, f := Focus(p, pred)
			want := p
			want.Rules = slices.DeleteFunc(slices.Clone(p.Rules), func(r api.Rule) bool { return !needs[r.Pred] })
			if !same(once, want) || f != api.OK || scope.Check(once) != api.OK {
				t.Fatalf("Focus(%v, %d) = %v %d", p, pred, once, f)
			}
			if twice, f := Focus(once, pred); !same(twice, once) || f != api.OK {
				t.Fatalf("Focus(%v, %d) = %v %d", once, pred, twice, f)
			}
			if again, f := Needs(once, pred); !slices.Equal(again, needs) || f != api.OK {
				t.Fatalf("Needs(%v, %d) = %v %d, want %v", once, pred, again, f, needs)
			}
			if e != api.OK {
				continue
			}
			l, f := Levels(once)
			for other, need := range needs {
				if f != api.OK || need && l[other] != levels[other] || !need && l[other] != 0 {
					t.Fatalf("Levels(%v) = %v %d, were %v", once, l, f, levels)
				}
			}
		}
	}
}

// round: a program without levels, in new memory: a(X) :- b(X), not a(X).
func round() api.Program {
	x := api.Term{}
	return api.Program{Arity: list(1, 1), Names: list("a", "b"), Rules: []api.Rule{{Vars: 1, Terms: list(x), Body: list(
		api.Lit{Kind: api.LitYes, Pred: 1, Terms: list(x)},
		api.Lit{Kind: api.LitNot, Terms: list(x)},
	)}}}
}

// E1, P1: what Check says first of all, of Levels ahead of that there are none, of Needs and Focus ahead of that there is no such predicate; all else is zero.
func TestErrorsOfCheck(t *testing.T) {
	for i, c := range []struct {
		do   func(p *api.Program)
		want api.Errno
	}{
		{func(p *api.Program) { p.Arity = make([]int, api.MaxPreds+1) }, api.ErrMany},
		{func(p *api.Program) { p.Rules = slices.Repeat(p.Rules, api.MaxRules+1) }, api.ErrMany},
		{func(p *api.Program) { p.Arity = nil }, api.ErrForm},
		{func(p *api.Program) { p.Names = nil }, api.ErrForm},
		{func(p *api.Program) { p.Arity[0] = -1 }, api.ErrRange},
		{func(p *api.Program) { p.Names[1] = "not" }, api.ErrForm},
		{func(p *api.Program) { p.Names[1] = "a" }, api.ErrTwice},
		{func(p *api.Program) { p.Rules[0].Pred = 2 }, api.ErrNone},
		{func(p *api.Program) { p.Rules[0].Pred = -1 }, api.ErrNone},
		{func(p *api.Program) { p.Rules[0].Fold = api.FoldMost + 1 }, api.ErrKind},
		{func(p *api.Program) { p.Rules[0].Body[1].Pred = 2 }, api.ErrNone},
		{func(p *api.Program) { p.Rules[0].Body[1].Pred = math.MinInt }, api.ErrNone},
		{func(p *api.Program) { p.Rules[0].Body[1].Kind = 0 }, api.ErrKind},
		{func(p *api.Program) { p.Rules[0].Body[1].Op = 1 }, api.ErrRange},
		{func(p *api.Program) { p.Rules[0].Vars = 2 }, api.ErrState},
	} {
		p := round()
		c.do(&p)
		if e := scope.Check(p); e != c.want {
			t.Fatalf("spoil %d: Check is %d", i, e)
		}
		if l, e := Levels(p); l != nil || e != c.want {
			t.Errorf("spoil %d: Levels is %v %d, want %d", i, l, e, c.want)
		}
		for _, pred := range list(0, 1, -1, 2, math.MaxInt) {
			if l, e := Needs(p, pred); l != nil || e != c.want {
				t.Errorf("spoil %d: Needs of %d is %v %d, want %d", i, pred, l, e, c.want)
			}
			if q, e := Focus(p, pred); !reflect.DeepEqual(q, api.Program{}) || e != c.want {
				t.Errorf("spoil %d: Focus of %d is %v %d, want %d", i, pred, q, e, c.want)
			}
		}
	}
}

// E1, P1: of no predicate.
func TestErrorsOfPred(t *testing.T) {
	for _, p := range list(api.Program{}, round(), chain(api.MaxPreds)) {
		for _, pred := range list(-1, len(p.Arity), len(p.Arity)+1, math.MaxInt, math.MinInt) {
			if l, e := Needs(p, pred); l != nil || e != api.ErrNone {
				t.Errorf("Needs of %d is %v %d", pred, l, e)
			}
			if q, e := Focus(p, pred); !reflect.DeepEqual(q, api.Program{}) || e != api.ErrNone {
				t.Errorf("Focus of %d is %v %d", pred, q, e)
			}
		}
		for pred := range p.Arity {
			if _, e := Needs(p, pred); e != api.OK {
				t.Errorf("Needs of %d is wrong: %d", pred, e)
			}
			if _, e := Focus(p, pred); e != api.OK {
				t.Errorf("Focus of %d is wrong: %d", pred, e)
			}
		}
	}
}

// spare: a list with more behind it.
func spare[T any](l []T, more ...T) []T { return slices.Concat(l, more)[: len(l) : len(l)+len(more)] }

// roomy: a program that has levels, with spare room in its lists.
func roomy() api.Program {
	p := round()
	p.Arity, p.Names = spare(p.Arity, 99), spare(p.Names, "Spare")
	r := &p.Rules[0]
	r.Terms = spare(r.Terms, number(7))
	r.Body[1].Pred = 1
	r.Body[1].Terms = spare(r.Body[1].Terms, number(8))
	r.Body = spare(r.Body, api.Lit{Kind: 99})
	p.Rules = spare(p.Rules, api.Rule{Vars: -1})
	return p
}

// P2: what is handed in is only read, spare room too.
func TestOnlyReads(t *testing.T) {
	all := func(p api.Program) []any {
		r := p.Rules[0]
		return []any{p.Arity[:3], p.Names[:3], p.Rules[:2], r.Terms[:2], r.Body[:3], r.Body[1].Terms[:2]}
	}
	p := roomy()
	_, e := Levels(p)
	_, f := Needs(p, 0)
	_, g := Focus(p, 0)
	if e != api.OK || f != api.OK || g != api.OK {
		t.Errorf("errors are %d %d %d", e, f, g)
	}
	if !reflect.DeepEqual(all(p), all(roomy())) {
		t.Errorf("what is left is %v", all(p))
	}
}

// spoilt: all that a program holds, spare room too, is written to; each list with another number.
func spoilt(p api.Program) {
	k := 100
	write := func(l []api.Term) {
		k++
		for i := range l[:cap(l)] {
			l[:cap(l)][i] = number(k)
		}
	}
	for _, r := range p.Rules {
		write(r.Terms)
		for _, l := range r.Body {
			write(l.Terms)
		}
	}
	for _, r := range p.Rules {
		for i := range r.Body[:cap(r.Body)] {
			k++
			r.Body[:cap(r.Body)][i].Kind = k
		}
	}
	for i := range p.Arity[:cap(p.Arity)] {
		p.Arity[:cap(p.Arity)][i] = k
	}
	for i := range p.Names[:cap(p.Names)] {
		p.Names[:cap(p.Names)][i] = "Spoilt"
	}
}

// P2: a focus does not change with what it is of, nor the other way.
func TestFocusIsNew(t *testing.T) {
	p, q := program(t, roads), program(t, roads)
	got, _ := Focus(p, 4)
	spoilt(p)
	clear(p.Rules)
	if !same(got, q) {
		t.Errorf("Focus is now %v, was %v", got, q)
	}
	got, _ = Focus(q, 4)
	spoilt(got)
	clear(got.Rules)
	if again, e := Focus(q, 4); !same(again, program(t, roads)) || e != api.OK {
		t.Errorf("Focus is %v %d", again, e)
	}
}

// P2: no two lists of a focus share memory, though those of the program do.
func TestListsOfFocus(t *testing.T) {
	terms := list(number(1), number(2))
	body := list(api.Lit{Kind: api.LitYes, Terms: terms}, api.Lit{Kind: api.LitNot, Pred: 1, Terms: terms})
	rule := api.Rule{Terms: terms, Body: body}
	p := api.Program{Arity: list(2, 2), Names: list("a", "b"), Rules: list(rule, rule)}
	got, e := Focus(p, 0)
	if !same(got, p) || e != api.OK {
		t.Fatalf("Focus is %v %d", got, e)
	}
	spoilt(got)
	seen := map[int]int{}
	for _, r := range got.Rules {
		for _, n := range list(r.Terms[0].N, r.Terms[1].N, r.Body[0].Terms[0].N, r.Body[0].Terms[1].N, r.Body[1].Terms[0].N, r.Body[1].Terms[1].N, r.Body[0].Kind, r.Body[1].Kind) {
			seen[n]++
		}
	}
	// Of each rule three lists of terms, each with one number, and two literals, each with its own.
	if len(seen) != 2*(3+2) {
		t.Errorf("lists share memory: %v", got)
	}
}

// P2, P3: the same each time, whatever was asked between, and whatever was done with an answer.
func TestSameEachTime(t *testing.T) {
	texts := list(roads, "a() :- not a().", "a() :- b(). b() :- not c().", strings.Repeat("a(1).", api.MaxRules))
	var first []any
	for range 3 {
		var now []any
		for _, s := range texts {
			p := program(t, s)
			for pred := range p.Arity {
				l, e := Levels(p)
				needs, f := Needs(p, pred)
				q, g := Focus(p, pred)
				now = append(now, slices.Clone(l), e, slices.Clone(needs), f, plain(q), g)
				clear(l)
				clear(needs)
				spoilt(q)
			}
		}
		if first == nil {
			first = now
		}
		if !reflect.DeepEqual(first, now) {
			t.Errorf("answers are %v, were %v", now, first)
		}
	}
}
