package model

import (
	"fmt"
	"math"
	"slices"
	"strings"
	"testing"

	"groundwork/api"
	"groundwork/scope"
)

func list[T any](l ...T) []T { return l }

func f(pred int, args ...int) api.Fact { return api.Fact{Pred: pred, Args: args} }

// program of a text.
func program(t *testing.T, s string) api.Program {
	p, at, e := scope.Program(s)
	if e != api.OK {
		t.Fatalf("Program(%q) is wrong at %d: %d", s, at, e)
	}
	return p
}

// facts of a text, with the predicates of a program.
func facts(t *testing.T, p api.Program, s string) []api.Fact {
	var l []api.Fact
	q := program(t, s)
	for _, r := range q.Rules {
		f := api.Fact{Pred: slices.Index(p.Names, q.Names[r.Pred])}
		for _, term := range r.Terms {
			f.Args = append(f.Args, term.N)
		}
		l = append(l, f)
	}
	return l
}

// many facts of a predicate: each with one number, from some one on.
func many(pred, from, n int) []api.Fact {
	var l []api.Fact
	for i := range n {
		l = append(l, f(pred, from+i))
	}
	return l
}

// with: a list with more, in memory of its own.
func with(l []api.Fact, more ...api.Fact) []api.Fact { return slices.Concat(l, more) }

// text of an answer, whether a list without elements is nil or not.
func text(answer any) string { return fmt.Sprint(answer) }

// told: facts by their names.
func told(p api.Program, l []api.Fact) string {
	var words []string
	for _, f := range l {
		words = append(words, p.Names[f.Pred]+strings.Trim(strings.ReplaceAll(text(f.Args), " ", ","), "[]"))
	}
	return strings.Join(words, " ")
}

// roads: the document's example, its facts apart; its predicates are way, road, toll, out, far.
const roads = "way(X, Y) :- road(X, Y), not toll(Y)." +
	"way(X, Z) :- way(X, Y), road(Y, Z), not toll(Z)." +
	"out(X, count Y) :- way(X, Y)." +
	"far(X, N) :- out(X, M), M + 1 = N, N < 3."

const given = "road(1, 2). road(2, 3). road(3, 1). toll(2)."

// H1, H2: models of texts and facts.
func TestModel(t *testing.T) {
	for _, c := range []struct{ s, facts, want string }{
		{"", "", ""},
		{"a().", "", "a"},
		{"a() :- b().", "", ""},
		{"a() :- b().", "b().", "a b"},
		{"a(2). a(1). a(2).", "a(3). a(1). a(3).", "a1 a2 a3"},
		{"a(X) :- b(X).", "b(2). b(1).", "a1 a2 b1 b2"},
		// Facts that are given may be such as rules have too.
		{"a(X) :- b(X).", "a(7). b(1).", "a1 a7 b1"},
		{"a(X) :- b(X), not c(X). c(X) :- d(X).", "b(1). b(2). b(3). c(1). d(2).", "a3 b1 b2 b3 c1 c2 d2"},
		{"a(count X) :- b(X).", "a(0). b(5). b(6).", "a0 a2 b5 b6"},
		// Again and again, whichever rule stands first.
		{"p(X, Y) :- q(X, Y). p(X, Z) :- p(X, Y), q(Y, Z).", "q(1, 2). q(2, 3). q(3, 4).", "p1,2 p1,3 p1,4 p2,3 p2,4 p3,4 q1,2 q2,3 q3,4"},
		{"p(X, Z) :- p(X, Y), q(Y, Z). p(X, Y) :- q(X, Y).", "q(1, 2). q(2, 3). q(3, 4).", "p1,2 p1,3 p1,4 p2,3 p2,4 p3,4 q1,2 q2,3 q3,4"},
		{"d() :- c(). c() :- b(). b() :- a(). a().", "", "d c b a"},
		{"a(). b() :- a(). c() :- b(). d() :- c().", "", "a b c d"},
		{"e(0). o(N) :- e(M), M + 1 = N, N < 6. e(N) :- o(M), M + 1 = N, N < 6.", "", "e0 e2 e4 o1 o3 o5"},
		// As little as may be.
		{"a() :- b(). b() :- a().", "", ""},
		{"a() :- a().", "", ""},
		{"a(X) :- a(X), b(X).", "b(1).", "b1"},
		// Level by level, wherever the rules stand.
		{"a() :- not b(). b() :- not c(). c() :- not d().", "", "a c"},
		{"c() :- not d(). b() :- not c(). a() :- not b().", "", "c a"},
		{"a() :- not b(). b() :- not c(). c() :- not d().", "d().", "b d"},
		{"r(X) :- q(X, Y). s(X) :- q(Y, X), not r(X). t(count X) :- s(X). t(count X) :- r(X).", "q(1, 2). q(2, 3). q(2, 4).", "r1 r2 q1,2 q2,3 q2,4 s3 s4 t2"},
		{"n(count X) :- p(X, Y). p(X, Z) :- p(X, Y), p(Y, Z).", "p(1, 2). p(2, 3). p(3, 4).", "n6 p1,2 p1,3 p1,4 p2,3 p2,4 p3,4"},
		{"b(X, least N) :- d(X, N). d(X, 0) :- r(X). d(Y, N) :- d(X, M), q(X, Y), M + 1 = N, N < 5.", "r(1). q(1, 2). q(2, 3). q(1, 3). q(3, 1).", "b1,0 b2,1 b3,1 d1,0 d1,2 d1,3 d1,4 d2,1 d2,3 d2,4 d3,1 d3,2 d3,3 d3,4 r1 q1,2 q1,3 q2,3 q3,1"},
		{"s(sum X) :- r(X). m(most X) :- s(X). z() :- m(X), X < 5.", "r(1). r(2).", "s3 r1 r2 m3 z"},
		{"s(sum X) :- r(X). z() :- not s(1000000).", "r(1000000). r(1).", "r1 r1000000 z"},
		// The document's example, and with the toll taken back.
		{roads, given, "way2,1 way2,3 way3,1 road1,2 road2,3 road3,1 toll2 out2,2 out3,1 far3,2"},
		{roads, "road(1, 2). road(2, 3). road(3, 1).", "way1,1 way1,2 way1,3 way2,1 way2,2 way2,3 way3,1 way3,2 way3,3 road1,2 road2,3 road3,1 out1,3 out2,3 out3,3"},
	} {
		p := program(t, c.s+c.facts)
		p.Rules = p.Rules[:len(p.Rules)-strings.Count(c.facts, ".")]
		l := facts(t, p, c.facts)
		m, e := Model(p, l)
		if told(p, m) != c.want || e != api.OK {
			t.Errorf("Model of %q with %q: %s %d, want %s", c.s, c.facts, told(p, m), e, c.want)
		}
		if is, e := Is(p, l, m); !is || e != api.OK {
			t.Errorf("%q with %q: %s is none: %d", c.s, c.facts, told(p, m), e)
		}
	}
}

// H2: what is the model, in whatever order and however often, and what is not.
func TestIs(t *testing.T) {
	for _, c := range []struct {
		s, facts, m string
		want        bool
	}{
		{"a() :- b().", "", "", true},
		{"a() :- b().", "", "a().", false},
		{"a() :- b().", "b().", "b(). a().", true},
		{"a() :- b().", "b().", "b(). a(). b(). a(). b().", true},
		{"a() :- b().", "b().", "b().", false},
		{"a() :- b().", "b().", "a().", false},
		{"a() :- b().", "b().", "", false},
		// All heads are there, but it is not as little as may be.
		{"a() :- b(). b() :- a().", "", "a(). b().", false},
		{"a() :- a(), not b().", "", "a().", false},
		{"a() :- not b().", "", "b().", false},
		{"a() :- not b().", "", "a().", true},
		{"a() :- not b().", "b().", "b().", true},
		{"a() :- not b().", "b().", "a(). b().", false},
		{"a(X) :- b(X).", "b(1).", "a(1). b(1). b(2). a(2).", false},
		{"a(X) :- b(X).", "b(1).", "a(2). b(1).", false},
		{"a(X) :- b(X).", "b(1). b(2).", "b(2). a(1). a(2). b(1).", true},
		{"a(count X) :- b(X).", "b(1). b(2).", "b(1). b(2). a(2).", true},
		{"a(count X) :- b(X).", "b(1). b(2).", "b(1). b(2). a(1). a(2).", false},
		{roads, given, given + "way(2, 3). way(2, 1). way(3, 1). out(2, 2). out(3, 1). far(3, 2).", true},
		{roads, given, given + "way(2, 3). way(2, 1). way(3, 1). out(2, 2). out(3, 1). far(2, 3).", false},
		{roads, given, given + "way(2, 3). way(2, 1). way(3, 1). out(2, 2). out(3, 1).", false},
	} {
		p := program(t, c.s)
		if is, e := Is(p, facts(t, p, c.facts), facts(t, p, c.m)); is != c.want || e != api.OK {
			t.Errorf("Is of %q with %q, %q: %v %d", c.s, c.facts, c.m, is, e)
		}
	}
}

// H2: what is asked of the document's example.
func TestAsk(t *testing.T) {
	p := program(t, roads)
	l := facts(t, p, given)
	for _, c := range []struct {
		pred  int
		args  []int
		bound []bool
		want  string
	}{
		{0, list(0, 0), nil, "way2,1 way2,3 way3,1"},
		{0, list(2, 0), list(true), "way2,1 way2,3"},
		{0, list(0, 1), list(false, true), "way2,1 way3,1"},
		{0, list(2, 3), list(true, true), "way2,3"},
		{0, list(3, 2), list(true, true), ""},
		{0, list(2), list(true), ""},
		{0, nil, nil, ""},
		{0, list(2, 3, 1), list(true, true, true), ""},
		{0, list(2, 3), list(true, true, true, true), "way2,3"},
		{1, list(0, 0), nil, "road1,2 road2,3 road3,1"},
		{2, list(2), list(true), "toll2"},
		{2, list(3), list(true), ""},
		{3, list(2, 0), list(true, false), "out2,2"},
		{4, list(0, 0), []bool{}, "far3,2"},
		// What no fact is like: nothing, and no error.
		{5, list(0, 0), nil, ""},
		{-1, nil, nil, ""},
		{math.MaxInt, list(math.MinInt), list(true), ""},
		{0, list(math.MaxInt, 0), list(true), ""},
	} {
		if got, e := Ask(p, l, c.pred, c.args, c.bound); told(p, got) != c.want || e != api.OK {
			t.Errorf("Ask(%d, %v, %v) = %s %d, want %s", c.pred, c.args, c.bound, told(p, got), e, c.want)
		}
	}
}

// errors of Model, Is of some list, and Ask; they must be the same, with nothing beside them.
func errorOf(t *testing.T, p api.Program, l []api.Fact) api.Errno {
	m, e := Model(p, l)
	is, g := Is(p, l, nil)
	a, h := Ask(p, l, 0, list(0), nil)
	if e != g || e != h {
		t.Errorf("errors are %d %d %d", e, g, h)
	}
	if e != api.OK && (m != nil || is || len(a) > 0) {
		t.Errorf("%v %v %v beside %d", m, is, a, e)
	}
	return e
}

// H1: as many facts, given, in a model, and ways as there may be, and one more.
func TestLimits(t *testing.T) {
	full := many(0, 0, api.MaxFacts)
	for i, c := range []struct {
		s    string
		l    []api.Fact
		want int // how many; -1: too many
	}{
		{"r(0).", full, api.MaxFacts},
		{"r(60).", full, -1},
		{"r(60).", full[1:], api.MaxFacts},
		{"r(0). s() :- r(X).", full, -1},
		{"r(0). s() :- r(X).", full[1:], -1},
		{"r(0). s() :- r(X).", full[2:], api.MaxFacts},
		// Facts twice are given twice, but are in the model once.
		{"r(0).", slices.Repeat(full[:1], api.MaxFacts), 1},
		{"r(0).", slices.Repeat(full[:1], api.MaxFacts+1), -1},
		{"r(0). s(X) :- r(X).", full[:30], api.MaxFacts},
		{"r(0). s(X) :- r(X).", full[:31], -1},
		{"r(1). r(N) :- r(M), M + 1 = N, N < 61.", nil, api.MaxFacts},
		{"r(1). r(N) :- r(M), M + 1 = N, N < 62.", nil, -1},
		{"r(1). r(N) :- r(M), M + 1 = N.", nil, -1},
		{"r(1). r(N) :- r(M), M - 1 = N.", nil, -1},
		// From a number on that ends by itself.
		{"r(999951). r(N) :- r(M), M + 1 = N.", nil, 50},
		{"r(1). r(N) :- r(M), M + M = N.", nil, 20},
		// Too many at a level above one that is not: no rule, or a fold, takes one away.
		{"r(0). s(X) :- r(X), not t(X). u(count X) :- s(X).", full[:30], -1},
		{"r(0). s(X) :- r(X), not t(X). u(count X) :- s(X).", full[:29], 59},
		// Ways, though heads are few: 2000, and 2025.
		{"r(0). s(0). t(0). a() :- r(X), s(Y), t(Z).", slices.Concat(many(0, 0, 20), many(1, 0, 20), many(2, 0, 5)), 46},
		{"r(0). s(0). t(0). a() :- r(X), s(Y), t(Z).", slices.Concat(many(0, 0, 23), many(1, 0, 29), many(2, 0, 3)), -1},
		{"r(0). a() :- r(X), r(Y).", full[:44], 45},
		{"r(0). a() :- r(X), r(Y).", full[:45], -1},
		{"r(0). a(count X) :- r(X), r(Y).", full[:44], 45},
		{"r(0). a(count X) :- r(X), r(Y).", full[:45], -1},
		{"r(0). r(1) :- r(X), r(Y).", full[:45], -1},
		// Ways that there are with what follows alone.
		{"r(0). r(N) :- r(M), M + 1 = N, N < 44. a() :- r(X), r(Y).", nil, 45},
		{"r(0). r(N) :- r(M), M + 1 = N, N < 45. a() :- r(X), r(Y).", nil, -1},
		{"a() :- r(X), r(Y). r(0). r(N) :- r(M), M + 1 = N, N < 45.", nil, -1},
		{"r(0). r(N) :- r(M), M + 1 = N, N < 45. r(0) :- r(X), r(Y).", nil, -1},
		{"r(0). r(N) :- r(M), M + 1 = N, N < 45. a(count X) :- s(X), s(Y). s(X) :- not t(X), r(X), X < 5.", nil, 45 + 5 + 1},
		// Ways that something lower takes away.
		{"r(0). a() :- r(X), r(Y), not s(). s() :- r(1).", full[:50], 51},
		{"r(0). a() :- r(X), r(Y), not s(). s() :- r(77).", full[:50], -1},
	} {
		p := program(t, c.s)
		m, _ := Model(p, c.l)
		e := errorOf(t, p, c.l)
		if e != api.OK && (e != api.ErrMany || c.want != -1) || e == api.OK && len(m) != c.want {
			t.Errorf("case %d, %q: %d facts %d, want %d", i, c.s, len(m), e, c.want)
		}
	}
}

// H1, P1: of errors that apply the one that is named first.
func TestErrors(t *testing.T) {
	const (
		right = "r(0). a() :- r(X), r(Y)."
		round = "r(0). a() :- r(X), r(Y), not a()."
	)
	full := many(0, 0, api.MaxFacts)
	for i, c := range []struct {
		s    string
		do   func(p *api.Program)
		l    []api.Fact
		want api.Errno
	}{
		{right, nil, nil, api.OK},
		{right, nil, list(f(0, -api.MaxNumber), f(0, api.MaxNumber), f(1)), api.OK},
		// Levels: Check, and that there are none.
		{round, func(p *api.Program) { p.Names[1] = "r" }, with(full, f(3)), api.ErrTwice},
		{round, func(p *api.Program) { p.Rules[1].Vars++ }, nil, api.ErrState},
		{right, func(p *api.Program) { p.Names = nil }, with(full, f(3)), api.ErrForm},
		{right, func(p *api.Program) { p.Rules[1].Body[0].Kind = 9 }, nil, api.ErrKind},
		{right, func(p *api.Program) { p.Rules = slices.Repeat(p.Rules, 7) }, list(f(3)), api.ErrMany},
		{round, nil, nil, api.ErrState},
		{round, nil, with(full, f(0, 1)), api.ErrState},
		{round, nil, list(f(3)), api.ErrState},
		// More than MaxFacts, wrong or not.
		{right, nil, with(full, f(1)), api.ErrMany},
		{right, nil, with(full, f(2)), api.ErrMany},
		{right, nil, make([]api.Fact, 100000), api.ErrMany},
		// What is wrong with one, ahead of too many facts and ways.
		{right, nil, list(f(2)), api.ErrNone},
		{right, nil, with(full[1:], f(-1)), api.ErrNone},
		{right, nil, list(f(0)), api.ErrForm},
		{right, nil, with(full[1:], f(1, 0)), api.ErrForm},
		{right, nil, with(full[1:], f(0, api.MaxNumber+1)), api.ErrRange},
		{right, nil, list(f(0, math.MinInt), f(1)), api.ErrRange},
		{right, nil, full[1:], api.ErrMany},
	} {
		p := program(t, c.s)
		if c.do != nil {
			c.do(&p)
		}
		if e := errorOf(t, p, slices.Clone(c.l)); e != c.want {
			t.Errorf("case %d: %d, want %d", i, e, c.want)
		}
	}
	if e := errorOf(t, api.Program{}, nil); e != api.OK {
		t.Errorf("of nothing: %d", e)
	}
	if e := errorOf(t, api.Program{}, list(f(0))); e != api.ErrNone {
		t.Errorf("of a fact of nothing: %d", e)
	}
}

// H2, P1: what is wrong with m comes behind what is wrong with l, and ahead of what a model has too much.
func TestErrorsOfIs(t *testing.T) {
	p := program(t, "r(0). a() :- r(X), r(Y).")
	round := program(t, "r(0). a() :- r(X), not a().")
	full := many(0, 0, api.MaxFacts)
	for i, c := range []struct {
		p    api.Program
		l, m []api.Fact
		want api.Errno
	}{
		{p, nil, nil, api.OK},
		{p, nil, full, api.OK},
		{p, nil, slices.Repeat(list(f(1), f(0, 0)), api.MaxFacts/2), api.OK},
		{p, nil, with(full, f(0, 0)), api.ErrMany},
		{p, nil, with(full, f(2)), api.ErrMany},
		{p, nil, list(f(2)), api.ErrNone},
		{p, nil, with(full[1:], f(-1)), api.ErrNone},
		{p, nil, list(f(0)), api.ErrForm},
		{p, nil, list(f(0, 0), f(1, 1)), api.ErrForm},
		{p, nil, list(f(0, 0), f(0, -api.MaxNumber-1)), api.ErrRange},
		// Levels first.
		{round, nil, list(f(2)), api.ErrState},
		{api.Program{Arity: list(1)}, nil, list(f(2)), api.ErrForm},
		// What is wrong with l, then with m.
		{p, with(full, f(0, 0)), list(f(2)), api.ErrMany},
		{p, list(f(2)), with(full, f(0, 0)), api.ErrNone},
		{p, list(f(0)), list(f(2)), api.ErrForm},
		{p, list(f(2)), list(f(0)), api.ErrNone},
		{p, list(f(0, api.MaxNumber+1)), list(f(0)), api.ErrRange},
		// Then what is too much.
		{p, full, list(f(2)), api.ErrNone},
		{p, full, list(f(0)), api.ErrForm},
		{p, full, list(f(0, api.MaxNumber+1)), api.ErrRange},
		{p, full, full, api.ErrMany},
		{p, full, nil, api.ErrMany},
	} {
		if is, e := Is(c.p, c.l, c.m); e != c.want || is && e != api.OK {
			t.Errorf("case %d: %v %d, want %d", i, is, e, c.want)
		}
	}
	if is, e := Is(p, nil, slices.Repeat(list(f(1), f(0, 0)), api.MaxFacts/2)); !is || e != api.OK {
		t.Errorf("a model, each fact often: %v %d", is, e)
	}
}
