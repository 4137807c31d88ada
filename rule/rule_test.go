package rule

import (
	"fmt"
	"math"
	"slices"
	"testing"

	"groundwork/api"
	"groundwork/scope"
)

func list[T any](l ...T) []T { return l }

func f(pred int, args ...int) api.Fact { return api.Fact{Pred: pred, Args: args} }

// program of a text.
func program(t *testing.T, s string) api.Program {
	p, at, e := scope.Program(s)
	if e != api.OK {
		t.Fatalf("Program(%q) is wrong at %d: %d", s, at, e)
	}
	return p
}

// facts of a text, with the predicates of a program.
func facts(t *testing.T, p api.Program, s string) []api.Fact {
	var l []api.Fact
	q := program(t, s)
	for _, r := range q.Rules {
		f := api.Fact{Pred: slices.Index(p.Names, q.Names[r.Pred])}
		for _, term := range r.Terms {
			f.Args = append(f.Args, term.N)
		}
		l = append(l, f)
	}
	return l
}

// many facts of a predicate: each with one number, from some one on.
func many(pred, from, n int) []api.Fact {
	var l []api.Fact
	for i := range n {
		l = append(l, f(pred, from+i))
	}
	return l
}

// with: a list with more, in memory of its own.
func with(l []api.Fact, more ...api.Fact) []api.Fact { return slices.Concat(l, more) }

// text of an answer, whether a list without elements is nil or not.
func text(answer any) string { return fmt.Sprint(answer) }

// roads: the document's example; its predicates are road, toll, way, out, far.
const roads = "road(1, 2). road(2, 3). road(3, 1). toll(2)." +
	"way(X, Y) :- road(X, Y), not toll(Y)." +
	"way(X, Z) :- way(X, Y), road(Y, Z), not toll(Z)." +
	"out(X, count Y) :- way(X, Y)." +
	"far(X, N) :- out(X, M), M + 1 = N, N < 3."

// G1, G2: the ways, and the heads, of one rule with some facts.
func TestWaysAndHeads(t *testing.T) {
	for _, c := range []struct {
		s     string
		rule  int
		facts string
		ways  string
		heads string
	}{
		// Without a body there is one way, with or without facts.
		{"a().", 0, "", "[[]]", "[{0 []}]"},
		{"a(1, -2, 1).", 0, "", "[[]]", "[{0 [1 -2 1]}]"},
		{"a(1).", 0, "a(1). a(2).", "[[]]", "[{0 [1]}]"},
		// A fact is there.
		{"a(X) :- b(X).", 0, "", "[]", "[]"},
		{"a(X) :- b(X).", 0, "a(1).", "[]", "[]"},
		{"a(X) :- b(X).", 0, "b(3). b(-1). b(2). b(10). b(3).", "[[-1] [2] [3] [10]]", "[{0 [-1]} {0 [2]} {0 [3]} {0 [10]}]"},
		{"a() :- b(X).", 0, "b(3). b(1).", "[[1] [3]]", "[{0 []}]"},
		{"a() :- b().", 0, "", "[]", "[]"},
		{"a() :- b().", 0, "b().", "[[]]", "[{0 []}]"},
		{"a(5) :- b(1, 2).", 0, "b(1, 2).", "[[]]", "[{0 [5]}]"},
		{"a(5) :- b(1, 2).", 0, "b(2, 1). b(1, 1). b(2, 2).", "[]", "[]"},
		{"a(X) :- b(X, X).", 0, "b(1, 2). b(2, 2). b(3, 1). b(3, 3).", "[[2] [3]]", "[{0 [2]} {0 [3]}]"},
		{"a(X) :- b(X, 2, X).", 0, "b(1, 2, 1). b(1, 1, 1). b(3, 2, 1). b(4, 2, 4).", "[[1] [4]]", "[{0 [1]} {0 [4]}]"},
		{"a(X, Z) :- b(X, Y), b(Y, Z).", 0, "b(1, 2). b(2, 3). b(2, 1). b(4, 4).", "[[1 1 2] [1 3 2] [2 2 1] [4 4 4]]", "[{0 [1 1]} {0 [1 3]} {0 [2 2]} {0 [4 4]}]"},
		{"a(X, Y) :- b(X), b(Y).", 0, "b(2). b(1).", "[[1 1] [1 2] [2 1] [2 2]]", "[{0 [1 1]} {0 [1 2]} {0 [2 1]} {0 [2 2]}]"},
		{"a(X, Y) :- b(X), c(Y).", 0, "b(2). b(1).", "[]", "[]"},
		{"a(X) :- a(X).", 0, "a(2).", "[[2]]", "[{0 [2]}]"},
		{"a(Y, 7, X) :- b(X, Y).", 0, "b(1, 2). b(0, 3).", "[[2 1] [3 0]]", "[{0 [2 7 1]} {0 [3 7 0]}]"},
		// The order is that of variables as they are numbered, not of literals.
		{"a(Z, X) :- b(X, Y), c(Y, Z).", 0, "b(1, 5). b(2, 4). c(4, 0). c(5, 3).", "[[0 2 4] [3 1 5]]", "[{0 [0 2]} {0 [3 1]}]"},
		// A fact is not there.
		{"a() :- not b().", 0, "", "[[]]", "[{0 []}]"},
		{"a() :- not b().", 0, "b().", "[]", "[]"},
		{"a(X) :- b(X), not c(X).", 0, "b(1). b(2). b(3). c(2). c(4).", "[[1] [3]]", "[{0 [1]} {0 [3]}]"},
		{"a(X) :- not c(X), b(X).", 0, "b(1). b(2). b(3). c(2). c(4).", "[[1] [3]]", "[{0 [1]} {0 [3]}]"},
		{"a(X) :- b(X), not c(X, 1).", 0, "b(1). b(2). c(1, 1). c(2, 2).", "[[2]]", "[{0 [2]}]"},
		{"a(X) :- b(X), not c(2).", 0, "b(1). c(2).", "[]", "[]"},
		{"a(X) :- b(X), not b(X).", 0, "b(1). b(2).", "[]", "[]"},
		{"a(X) :- b(X), not a(X).", 0, "a(1). b(1). b(2).", "[[2]]", "[{0 [2]}]"},
		// Two are so.
		{"a(X) :- b(X), X < 2.", 0, "b(1). b(2). b(3).", "[[1]]", "[{0 [1]}]"},
		{"a(X) :- b(X), X <= 2.", 0, "b(1). b(2). b(3).", "[[1] [2]]", "[{0 [1]} {0 [2]}]"},
		{"a(X) :- b(X), X = 2.", 0, "b(1). b(2). b(3).", "[[2]]", "[{0 [2]}]"},
		{"a(X) :- b(X), X != 2.", 0, "b(1). b(2). b(3).", "[[1] [3]]", "[{0 [1]} {0 [3]}]"},
		{"a(X) :- 2 < X, b(X).", 0, "b(1). b(2). b(3).", "[[3]]", "[{0 [3]}]"},
		{"a(X) :- X != X, b(X).", 0, "b(1). b(2).", "[]", "[]"},
		{"a() :- 1 < 2.", 0, "", "[[]]", "[{0 []}]"},
		{"a() :- 2 < 2.", 0, "", "[]", "[]"},
		{"a() :- -3 < 2.", 0, "", "[[]]", "[{0 []}]"},
		{"a(X, Y) :- b(X), b(Y), X < Y.", 0, "b(3). b(2). b(1).", "[[1 2] [1 3] [2 3]]", "[{0 [1 2]} {0 [1 3]} {0 [2 3]}]"},
		// What is reckoned: the third one new, a number, or known; a literal behind may be needed ahead.
		{"a(X) :- 2 + 3 = X.", 0, "", "[[5]]", "[{0 [5]}]"},
		{"a(X) :- 2 - 3 = X.", 0, "", "[[-1]]", "[{0 [-1]}]"},
		{"a(X) :- -2 * 3 = X.", 0, "", "[[-6]]", "[{0 [-6]}]"},
		{"a() :- 2 + 3 = 5.", 0, "", "[[]]", "[{0 []}]"},
		{"a() :- 2 + 3 = 6.", 0, "", "[]", "[]"},
		{"a(X) :- b(X), X * X = X.", 0, "b(-1). b(0). b(1). b(2).", "[[0] [1]]", "[{0 [0]} {0 [1]}]"},
		{"a(X, Y) :- b(X), b(Y), X - Y = 1.", 0, "b(1). b(2). b(3).", "[[2 1] [3 2]]", "[{0 [2 1]} {0 [3 2]}]"},
		{"a(X, Y, Z) :- X + Y = Z, b(X), b(Y), b(Z).", 0, "b(1). b(2). b(3).", "[[1 1 2] [1 2 3] [2 1 3]]", "[{0 [1 1 2]} {0 [1 2 3]} {0 [2 1 3]}]"},
		{"a(Z) :- Y * 2 = Z, X + 1 = Y, b(X).", 0, "b(1). b(4).", "[[4 2 1] [10 5 4]]", "[{0 [4]} {0 [10]}]"},
		{"a(X) :- X < 4, Y - 1 = X, b(Y), not b(X).", 0, "b(1). b(2). b(3). b(5).", "[[0 1]]", "[{0 [0]}]"},
		{"a(X) :- b(Y), Y + Y = X, Y * Y = X.", 0, "b(0). b(1). b(2). b(3).", "[[0 0] [4 2]]", "[{0 [0]} {0 [4]}]"},
		// The document's example.
		{roads, 4, "road(1, 2). road(2, 3). road(3, 1). toll(2).", "[[2 3] [3 1]]", "[{2 [2 3]} {2 [3 1]}]"},
		{roads, 5, "road(1, 2). road(2, 3). road(3, 1). toll(2). way(2, 3). way(3, 1).", "[[2 1 3]]", "[{2 [2 1]}]"},
		{roads, 6, "way(2, 3). way(2, 1). way(3, 1).", "[[2 1] [2 3] [3 1]]", "[{3 [2 2]} {3 [3 1]}]"},
		{roads, 7, "out(2, 2). out(3, 1).", "[[3 2 1]]", "[{4 [3 2]}]"},
	} {
		p := program(t, c.s)
		l := facts(t, p, c.facts)
		ways, e := Ways(p, c.rule, l)
		heads, g := Heads(p, c.rule, l)
		if text(ways) != c.ways || text(heads) != c.heads || e != api.OK || g != api.OK {
			t.Errorf("rule %d of %q with %q: %v %d, want %s; %v %d, want %s", c.rule, c.s, c.facts, ways, e, c.ways, heads, g, c.heads)
		}
	}
}

// G2: what is folded of groups of ways.
func TestFolds(t *testing.T) {
	const b = "b(1, 5). b(1, 3). b(2, 3). b(2, -4). b(1, -1)."
	for _, c := range []struct{ s, facts, heads string }{
		{"a(X, count Y) :- b(X, Y).", b, "[{0 [1 3]} {0 [2 2]}]"},
		{"a(X, sum Y) :- b(X, Y).", b, "[{0 [1 7]} {0 [2 -1]}]"},
		{"a(X, least Y) :- b(X, Y).", b, "[{0 [1 -1]} {0 [2 -4]}]"},
		{"a(X, most Y) :- b(X, Y).", b, "[{0 [1 5]} {0 [2 3]}]"},
		// All are one group; no ways are none.
		{"a(count Y) :- b(X, Y).", b, "[{0 [5]}]"},
		{"a(sum Y) :- b(X, Y).", b, "[{0 [6]}]"},
		{"a(least Y) :- b(X, Y).", b, "[{0 [-4]}]"},
		{"a(most Y) :- b(X, Y).", b, "[{0 [5]}]"},
		{"a(count Y) :- b(X, Y).", "", "[]"},
		{"a(sum Y) :- b(X, Y).", "", "[]"},
		{"a(least Y) :- b(X, Y).", "", "[]"},
		{"a(most Y) :- b(X, Y).", "", "[]"},
		// Each way counts, though the last number is the same, or a number.
		{"a(X, count X) :- b(X, Y).", b, "[{0 [1 3]} {0 [2 2]}]"},
		{"a(X, sum X) :- b(X, Y).", b, "[{0 [1 3]} {0 [2 4]}]"},
		{"a(sum X) :- b(X, Y), b(X, Z).", "b(1, 1). b(1, 2). b(3, 3).", "[{0 [7]}]"},
		{"a(count 7) :- b(X, Y).", b, "[{0 [5]}]"},
		{"a(sum 7) :- b(X, Y).", b, "[{0 [35]}]"},
		{"a(least 7) :- b(X, Y).", b, "[{0 [7]}]"},
		{"a(most -7) :- b(X, Y).", b, "[{0 [-7]}]"},
		{"a(count 0) :- 1 < 2.", "", "[{0 [1]}]"},
		{"a(sum 5) :- not b().", "", "[{0 [5]}]"},
		// Facts twice are one way.
		{"a(X, count Y) :- b(X, Y).", "b(1, 1). b(1, 1). b(1, 2).", "[{0 [1 2]}]"},
		{"a(X, sum Y) :- b(X, Y).", "b(1, 1). b(1, 1). b(1, 2).", "[{0 [1 3]}]"},
		// Groups by all terms but the last, wherever their ways stand in order.
		{"a(Y, count X) :- b(X, Y).", b, "[{0 [-4 1]} {0 [-1 1]} {0 [3 2]} {0 [5 1]}]"},
		{"a(2, Y, sum X) :- b(X, Y).", b, "[{0 [2 -4 2]} {0 [2 -1 1]} {0 [2 3 3]} {0 [2 5 1]}]"},
		{"a(X, X, most Y) :- b(X, Y).", b, "[{0 [1 1 5]} {0 [2 2 3]}]"},
		{"a(Z, least X) :- c(X, Y, Z).", "c(1, 1, 9). c(2, 1, 8). c(3, 1, 9). c(4, 2, 8).", "[{0 [8 2]} {0 [9 1]}]"},
		{"a(Z, Y, count X) :- c(X, Y, Z).", "c(1, 1, 9). c(2, 1, 8). c(3, 1, 9). c(4, 2, 8).", "[{0 [8 1 1]} {0 [8 2 1]} {0 [9 1 2]}]"},
		// What is folded may be reckoned.
		{"a(X, sum Z) :- b(X, Y), Y * Y = Z.", b, "[{0 [1 35]} {0 [2 25]}]"},
		// A sum of which none is a number.
		{"a(X, sum Y) :- b(X, Y).", "b(1, 1000000). b(1, 0).", "[{0 [1 1000000]}]"},
		{"a(X, sum Y) :- b(X, Y).", "b(1, 1000000). b(1, 1). b(2, 1).", "[{0 [2 1]}]"},
		{"a(X, sum Y) :- b(X, Y).", "b(1, -1000000). b(1, 0). b(2, 1).", "[{0 [1 -1000000]} {0 [2 1]}]"},
		{"a(X, sum Y) :- b(X, Y).", "b(1, -1000000). b(1, -1). b(2, 1).", "[{0 [2 1]}]"},
		{"a(sum Y) :- b(X, Y).", "b(1, -1000000). b(2, -1000000). b(3, 1000000). b(4, 1000000). b(5, 7).", "[{0 [7]}]"},
		{"a(sum Y) :- b(X, Y).", "b(1, 1000000). b(2, 1).", "[]"},
	} {
		p := program(t, c.s)
		if heads, e := Heads(p, 0, facts(t, p, c.facts)); text(heads) != c.heads || e != api.OK {
			t.Errorf("%q with %q: %v %d, want %s", c.s, c.facts, heads, e, c.heads)
		}
	}
}

// G1: what is reckoned is from -MaxNumber to MaxNumber, or there is no way.
func TestReckonedNumbers(t *testing.T) {
	const most = api.MaxNumber
	for _, c := range []struct {
		op   string
		a, b int
		want string
	}{
		{"+", most, 0, "[[1000000]]"}, {"+", most, 1, "[]"}, {"+", most - 1, 1, "[[1000000]]"}, {"+", most, most, "[]"}, {"+", most, -most, "[[0]]"},
		{"+", -most, 0, "[[-1000000]]"}, {"+", -most, -1, "[]"}, {"+", -most, -most, "[]"},
		{"-", most, -1, "[]"}, {"-", most, 1, "[[999999]]"}, {"-", -most, 1, "[]"}, {"-", -most, -most, "[[0]]"}, {"-", 0, most, "[[-1000000]]"}, {"-", most, -most, "[]"},
		{"*", 1000, 1000, "[[1000000]]"}, {"*", 1000, 1001, "[]"}, {"*", -1000, 1000, "[[-1000000]]"}, {"*", -1001, 1000, "[]"}, {"*", most, most, "[]"}, {"*", -most, most, "[]"}, {"*", -most, -most, "[]"}, {"*", most, 0, "[[0]]"}, {"*", most, -1, "[[-1000000]]"}, {"*", -most, -1, "[[1000000]]"},
	} {
		for _, s := range []string{
			fmt.Sprintf("a(X) :- %d %s %d = X.", c.a, c.op, c.b),
			fmt.Sprintf("a(X) :- %d %s %d = X, X = X.", c.a, c.op, c.b),
		} {
			if ways, e := Ways(program(t, s), 0, nil); text(ways) != c.want || e != api.OK {
				t.Errorf("%q: %v %d, want %s", s, ways, e, c.want)
			}
		}
	}
}

// G1: as many variables, literals and facts as there may be.
func TestLimits(t *testing.T) {
	p := program(t, "a() :- b(A, B), c(C, D, E), c(F, G, H), A + B = C.")
	l := facts(t, p, "b(1, 2). c(3, 4, 5). c(4, 4, 5).")
	if ways, e := Ways(p, 0, l); text(ways) != "[[1 2 3 4 5 3 4 5] [1 2 3 4 5 4 4 5]]" || e != api.OK {
		t.Errorf("Ways are %v %d", ways, e)
	}
	p = program(t, "a(X) :- b(X).")
	l = many(1, 0, api.MaxFacts)
	if ways, e := Ways(p, 0, l); len(ways) != api.MaxFacts || e != api.OK {
		t.Errorf("%d ways, %d", len(ways), e)
	}
	// One more is too many, though it is there already.
	l = append(l, l[0])
	if ways, e := Ways(p, 0, l); ways != nil || e != api.ErrMany {
		t.Errorf("Ways are %v %d", ways, e)
	}
	if heads, e := Heads(p, 0, l); heads != nil || e != api.ErrMany {
		t.Errorf("Heads are %v %d", heads, e)
	}
}

// G1, G2: as many ways as there may be, and one more, whatever the heads are.
func TestMaxWays(t *testing.T) {
	for _, c := range []struct {
		a, b, c int
		e       api.Errno
	}{
		{10, 10, 20, api.OK}, {20, 20, 5, api.OK}, {3, 23, 29, api.ErrMany}, {29, 3, 23, api.ErrMany}, {20, 20, 20, api.ErrMany}, {20, 20, 0, api.OK},
	} {
		l := slices.Concat(many(1, 0, c.a), many(2, 100, c.b), many(3, -50, c.c))
		for _, head := range list("a(X, Y, Z)", "a(1, 1, 1)", "a(1, 1, count X)", "a(X, 1, sum X)") {
			p := program(t, head+" :- b(X), c(Y), d(Z).")
			ways, e := Ways(p, 0, l)
			heads, g := Heads(p, 0, l)
			if e != c.e || g != c.e {
				t.Errorf("%s of %d %d %d: %d %d, want %d", head, c.a, c.b, c.c, e, g, c.e)
			}
			if e != api.OK && (ways != nil || heads != nil) {
				t.Errorf("%s: %v %v beside an error", head, ways, heads)
			}
			if e == api.OK && len(ways) != c.a*c.b*c.c {
				t.Errorf("%s of %d %d %d: %d ways", head, c.a, c.b, c.c, len(ways))
			}
		}
	}
	p := program(t, "a(1, 1, count X) :- b(X), c(Y), d(Z).")
	if heads, e := Heads(p, 0, slices.Concat(many(1, 0, 20), many(2, 0, 20), many(3, 0, 5))); text(heads) != "[{0 [1 1 2000]}]" || e != api.OK {
		t.Errorf("Heads are %v %d", heads, e)
	}
	// Only of the rule that is asked for.
	p = program(t, "a() :- b(X), b(Y). e() :- b(X).")
	if ways, e := Ways(p, 1, many(1, 0, 60)); len(ways) != 60 || e != api.OK {
		t.Errorf("%d ways, %d", len(ways), e)
	}
}

// G1, P1: of errors that apply the one that is named first, with nothing beside it.
func TestErrors(t *testing.T) {
	right := func() api.Program { return program(t, "a() :- b(X), b(Y), c(Z, 1).") }
	full := many(1, 0, api.MaxFacts)
	wrong := with(many(1, 0, api.MaxFacts-1), f(3))
	for i, c := range []struct {
		do   func(p *api.Program)
		rule int
		l    []api.Fact
		want api.Errno
	}{
		{nil, 0, nil, api.OK},
		{nil, 0, full, api.OK},
		// Check.
		{func(p *api.Program) { p.Names[1] = "a" }, 0, nil, api.ErrTwice},
		{func(p *api.Program) { p.Names[1] = "a" }, 5, with(full, f(3)), api.ErrTwice},
		{func(p *api.Program) { p.Arity[0] = 1 }, -1, with(full, f(3)), api.ErrForm},
		{func(p *api.Program) { p.Rules[0].Vars++ }, 1, with(full, f(3)), api.ErrState},
		{func(p *api.Program) { p.Rules[0].Body[0].Kind = 9 }, 1, nil, api.ErrKind},
		{func(p *api.Program) { p.Rules[0].Body[0].Op = 1 }, 1, nil, api.ErrRange},
		{func(p *api.Program) { p.Rules = slices.Repeat(p.Rules, 13) }, 0, nil, api.ErrMany},
		// Another rule may be wrong.
		{func(p *api.Program) { p.Rules = append(p.Rules, api.Rule{Pred: 7}) }, 0, nil, api.ErrNone},
		// No such rule.
		{nil, 1, nil, api.ErrNone},
		{nil, -1, nil, api.ErrNone},
		{nil, math.MaxInt, nil, api.ErrNone},
		{nil, math.MinInt, nil, api.ErrNone},
		{nil, 1, with(full, f(0, 1)), api.ErrNone},
		{nil, 1, list(f(0, 1)), api.ErrNone},
		// More than MaxFacts, wrong or not.
		{nil, 0, with(full, f(0)), api.ErrMany},
		{nil, 0, with(full, f(3)), api.ErrMany},
		{nil, 0, with(wrong, f(0)), api.ErrMany},
		{nil, 0, make([]api.Fact, 100000), api.ErrMany},
		// What is wrong with one, first or last.
		{nil, 0, wrong, api.ErrNone},
		{nil, 0, list(f(-1)), api.ErrNone},
		{nil, 0, list(f(math.MinInt), f(0)), api.ErrNone},
		{nil, 0, list(f(0), f(1)), api.ErrForm},
		{nil, 0, list(f(0), f(1, 2, 3)), api.ErrForm},
		{nil, 0, list(f(0, 1)), api.ErrForm},
		{nil, 0, list(f(1, api.MaxNumber+1), f(0)), api.ErrRange},
		{nil, 0, list(f(2, 0, -api.MaxNumber-1)), api.ErrRange},
		{nil, 0, list(f(2, math.MinInt, math.MaxInt)), api.ErrRange},
		{nil, 0, list(f(1, api.MaxNumber), f(2, -api.MaxNumber, 0)), api.OK},
		// Too many ways, and a fact that is wrong.
		{nil, 0, with(many(1, 0, 50), f(2, 1, 1)), api.ErrMany},
		{nil, 0, with(many(1, 0, 50), f(2, 1, 1), f(2)), api.ErrForm},
		{nil, 0, with(many(1, 0, 50), f(2, 1, 1), f(2, 1, api.MaxNumber+1)), api.ErrRange},
	} {
		p := right()
		if c.do != nil {
			c.do(&p)
		}
		ways, e := Ways(p, c.rule, c.l)
		heads, g := Heads(p, c.rule, c.l)
		if e != c.want || g != c.want {
			t.Errorf("case %d: %d %d, want %d", i, e, g, c.want)
		}
		if c.want != api.OK && (ways != nil || heads != nil) {
			t.Errorf("case %d: %v %v beside an error", i, ways, heads)
		}
	}
	for _, rule := range list(-1, 0, 1) {
		if ways, e := Ways(api.Program{}, rule, nil); ways != nil || e != api.ErrNone {
			t.Errorf("Ways of nothing are %v %d", ways, e)
		}
	}
}

// P1: of many ways so far none comes to an end.
func TestWaysThatComeToNothing(t *testing.T) {
	var l []api.Fact
	for i := range api.MaxFacts {
		l = append(l, f(1, i, i*7%60+100, 0))
	}
	for _, s := range []string{
		"a() :- b(X, Y, Z), b(U, V, Z), b(W, T, Z), b(X, U, W).",
		"a() :- b(A, B, 0), b(C, D, 0), b(E, F, 0), A * 0 = 1.",
		"a() :- b(A, B, 0), b(C, D, 0), b(E, F, 0), E != E.",
		"a() :- b(A, B, 0), b(C, D, 0), b(E, F, 0), b(0, 0, 7).",
		"a() :- b(A, B, 0), b(C, D, 0), b(E, F, 0), not b(E, F, 0).",
		"a() :- b(A, B, 0), b(C, D, 0), b(E, F, 0), 2 < 1.",
	} {
		if ways, e := Ways(program(t, s), 0, l); len(ways) != 0 || e != api.OK {
			t.Errorf("%q: %d ways, %d", s, len(ways), e)
		}
	}
}
