package why

import (
	"fmt"
	"math"
	"slices"
	"strconv"
	"strings"
	"testing"

	"groundwork/api"
	"groundwork/relation"
	"groundwork/scope"
)

func list[T any](l ...T) []T { return l }

func f(pred int, args ...int) api.Fact { return api.Fact{Pred: pred, Args: args} }

// program of a text.
func program(t *testing.T, s string) api.Program {
	p, at, e := scope.Program(s)
	if e != api.OK {
		t.Fatalf("Program(%q) is wrong at %d: %d", s, at, e)
	}
	return p
}

// numbers of a word with commas between.
func numbers(t *testing.T, s string) []int {
	var l []int
	for _, w := range strings.FieldsFunc(s, func(r rune) bool { return r == ',' }) {
		n, err := strconv.Atoi(w)
		if err != nil {
			t.Fatal(err)
		}
		l = append(l, n)
	}
	return l
}

// fact of a word: a name and its numbers, as q1,2.
func fact(t *testing.T, p api.Program, s string) api.Fact {
	name := strings.TrimRight(s, "-0123456789,")
	return api.Fact{Pred: slices.Index(p.Names, name), Args: numbers(t, s[len(name):])}
}

// facts of words.
func facts(t *testing.T, p api.Program, s string) []api.Fact {
	var l []api.Fact
	for _, w := range strings.Fields(s) {
		l = append(l, fact(t, p, w))
	}
	return l
}

// steps of a text: of each its fact, its rule (none: it is given), its numbers, and a semicolon behind all but the last one.
func steps(t *testing.T, p api.Program, s string) []api.Step {
	var l []api.Step
	for _, one := range strings.FieldsFunc(s, func(r rune) bool { return r == ';' }) {
		words := strings.Fields(one)
		step := api.Step{Fact: fact(t, p, words[0]), Rule: -1}
		if len(words) > 1 {
			step.Rule = numbers(t, words[1])[0]
			step.Vars = numbers(t, strings.Join(words[2:], ""))
		}
		l = append(l, step)
	}
	return l
}

// roads: the document's example, its facts apart.
const roads = "way(X, Y) :- road(X, Y), not toll(Y)." +
	"way(X, Z) :- way(X, Y), road(Y, Z), not toll(Z)." +
	"out(X, count Y) :- way(X, Y)." +
	"far(X, N) :- out(X, M), M + 1 = N, N < 3."

const said = "road1,2 road2,3 road3,1 toll2"

const paths = "p(X, Y) :- q(X, Y). p(X, Z) :- p(X, Y), q(Y, Z)."

// I1: what is a proof, and what is none.
func TestCheck(t *testing.T) {
	for i, c := range []struct {
		s, facts, steps string
		want            bool
	}{
		// One at least.
		{paths, "q1,2", "", false},
		{"a().", "a", "", false},
		// What is given: the fact must be, and there are no numbers.
		{paths, "q1,2", "q1,2", true},
		{paths, "q1,2", "q1,2 -1 1", false},
		{paths, "q1,2", "q1,2 -1 1,2", false},
		{paths, "q1,2", "q2,1", false},
		{paths, "q1,2", "q1,3", false},
		{paths, "q1,2", "q1", false},
		{paths, "q1,2", "q1,2,3", false},
		{paths, "q1,2", "p1,2", false},
		{paths, "q1,2", "none1,2", false},
		{paths, "", "q1,2", false},
		{"a(). b() :- a().", "", "a", false},
		{paths, "p5,6", "p5,6", true},
		// By a rule: a step ahead for each LitYes.
		{paths, "q1,2", "q1,2; p1,2 0 1,2", true},
		{paths, "q1,2", "p1,2 0 1,2", false},
		{paths, "q1,2", "p1,2 0 1,2; q1,2", false},
		{paths, "q1,2 q2,3", "q2,3; p1,2 0 1,2", false},
		{paths, "q1,2 q2,3", "q1,2; p1,2 0 1,2; q2,3; p1,3 1 1,3,2", true},
		{paths, "q1,2 q2,3", "q2,3; q1,2; p1,2 0 1,2; p1,3 1 1,3,2", true},
		{paths, "q1,2 q2,3", "q1,2; p1,2 0 1,2; p1,3 1 1,3,2", false},
		{paths, "q1,2 q2,3", "q1,2; q2,3; p1,3 1 1,3,2", false},
		{paths, "q1,2 q2,3", "q1,2; q2,3; p1,3 1 1,3,2; p1,2 0 1,2", false},
		{paths, "q1,2 q2,3 p1,2", "p1,2; q2,3; p1,3 1 1,3,2", true},
		// No step of these is missing, whatever else is there, once or more often.
		{paths, "q1,2 q2,3", "q2,3; q1,2; q2,3; p2,3 0 2,3; p1,2 0 1,2; p2,3 0 2,3; q1,2", true},
		// One wrong step, wherever.
		{paths, "q1,2", "q2,1; q1,2; p1,2 0 1,2", false},
		{paths, "q1,2", "q1,2; p2,1 0 2,1; p1,2 0 1,2", false},
		{paths, "q1,2", "q1,2; p1,2 0 1,2; p1,2 0 2,1", false},
		// A fact of which the step itself is none ahead.
		{"a() :- a().", "a", "a 0", false},
		{"a() :- a().", "a", "a; a 0", true},
		{"a() :- b(). b() :- a().", "", "a 0; b 1", false},
		{"a() :- b(). b() :- a().", "b", "b; a 0; b 1", true},
		// Numbers must be a way, and the fact its head.
		{paths, "q1,2 q2,3", "q1,2; p1,2 0 1,3", false},
		{paths, "q1,2 q2,3", "q1,2; p1,2 0 1", false},
		{paths, "q1,2 q2,3", "q1,2; p1,2 0", false},
		{paths, "q1,2 q2,3", "q1,2; p1,2 0 1,2,3", false},
		{paths, "q1,2 q2,3", "q1,2; q2,3; p1,2 0 2,3", false},
		{paths, "q1,2 q2,3", "q1,2; q2,3; p2,3 0 1,2", false},
		{paths, "q1,2 q2,3", "q1,2; p1,1 0 1,2", false},
		{paths, "q1,2 q2,3", "q1,2; q1,2 0 1,2", false},
		{paths, "q1,2 q2,3", "q1,2; p1 0 1,2", false},
		{paths, "q1,2 q2,3", "q1,2; p1,2,2 0 1,2", false},
		{"a(X) :- b(X, Y).", "b1,5 b1,6", "b1,6; a1 0 1,6", true},
		{"a(X) :- b(X, Y).", "b1,5 b1,6", "b1,5; a1 0 1,6", false},
		{"a(X, X, 7) :- b(X).", "b1", "b1; a1,1,7 0 1", true},
		{"a(X, X, 7) :- b(X).", "b1", "b1; a1,1,8 0 1", false},
		// No such rule, or another one.
		{paths, "q1,2", "q1,2; p1,2 1 1,2", false},
		{paths, "q1,2", "q1,2; p1,2 2 1,2", false},
		{paths, "q1,2", "q1,2; p1,2 -2 1,2", false},
		{paths, "q1,2", "q1,2 -2", false},
		{paths, "q1,2", "q1,2 9223372036854775807", false},
		{paths, "q1,2", "q1,2 -9223372036854775808", false},
		{"", "", "a", false},
		// Rules without a body, without variables; with what is not, tested, reckoned.
		{"a(). b(-3).", "", "a 0", true},
		{"a(). b(-3).", "", "b-3 1", true},
		{"a(). b(-3).", "", "b3 1", false},
		{"a(). b(-3).", "", "a 1", false},
		{"a(). b(-3).", "", "a 0 0", false},
		{"a() :- not b().", "", "a 0", true},
		{"a() :- not b().", "b", "a 0", false},
		{"a() :- not b().", "b", "b; a 0", false},
		{"a() :- not b(). b() :- not c().", "", "a 0", false},
		{"a() :- not b(). b() :- not c().", "c", "a 0", true},
		{"a(X) :- b(X), X < 3, not c(X).", "b1 b2 b3 c2", "b1; a1 0 1", true},
		{"a(X) :- b(X), X < 3, not c(X).", "b1 b2 b3 c2", "b2; a2 0 2", false},
		{"a(X) :- b(X), X < 3, not c(X).", "b1 b2 b3 c2", "b3; a3 0 3", false},
		{"a(N) :- b(M), M + 1 = N.", "b1", "b1; a2 0 2,1", true},
		{"a(N) :- b(M), M + 1 = N.", "b1", "b1; a2 0 1,2", false},
		{"a() :- b(X), b(Y), X < Y.", "b1 b2", "b1; b2; a 0 1,2", true},
		{"a() :- b(X), b(Y), X < Y.", "b1 b2", "b2; a 0 1,2", false},
		{"a() :- b(X), b(Y), X < Y.", "b1 b2", "b1; a 0 1,2", false},
		// Ways are those with the model, not with what is given, or with what steps ahead have.
		{"a() :- b(), not c(). c() :- d().", "b d", "b; a 0", false},
		{"a() :- b(), not c(). c() :- d().", "b", "b; a 0", true},
		// Folds: one of the heads, by any way of its group, and no steps ahead.
		{"a(X, count Y) :- b(X, Y).", "b1,5 b1,6 b2,7", "a1,2 0 1,5", true},
		{"a(X, count Y) :- b(X, Y).", "b1,5 b1,6 b2,7", "a1,2 0 1,6", true},
		{"a(X, count Y) :- b(X, Y).", "b1,5 b1,6 b2,7", "a2,1 0 2,7", true},
		{"a(X, count Y) :- b(X, Y).", "b1,5 b1,6 b2,7", "b1,5; b1,6; a1,2 0 1,5", true},
		{"a(X, count Y) :- b(X, Y).", "b1,5 b1,6 b2,7", "a1,2 0 2,7", false},
		{"a(X, count Y) :- b(X, Y).", "b1,5 b1,6 b2,7", "a2,1 0 1,5", false},
		{"a(X, count Y) :- b(X, Y).", "b1,5 b1,6 b2,7", "a1,1 0 1,5", false},
		{"a(X, count Y) :- b(X, Y).", "b1,5 b1,6 b2,7", "b1,5; a1,1 0 1,5", false},
		{"a(X, count Y) :- b(X, Y).", "b1,5 b1,6 b2,7", "a1,5 0 1,5", false},
		{"a(X, count Y) :- b(X, Y).", "b1,5 b1,6 b2,7", "a1,2 0 1,7", false},
		{"a(X, count Y) :- b(X, Y).", "b1,5 b1,6 b2,7", "a1,2 0", false},
		{"a(X, count Y) :- b(X, Y).", "b1,5 b1,6 b2,7", "a1 0 1,5", false},
		{"a(X, count Y) :- b(X, Y).", "b1,5 b1,6 b2,7", "b1,2 0 1,5", false},
		{"a(X, count Y) :- b(X, Y).", "b1,5 b1,6 b2,7 a9,9", "a9,9 0 1,5", false},
		{"a(X, sum Y) :- b(X, Y).", "b1,5 b1,6", "a1,11 0 1,6", true},
		{"a(X, sum Y) :- b(X, Y).", "b1,1000000 b1,1 b2,3", "a1,1000001 0 1,1", false},
		{"a(X, sum Y) :- b(X, Y).", "b1,1000000 b1,1 b2,3", "a1,1 0 1,1", false},
		{"a(X, sum Y) :- b(X, Y).", "b1,1000000 b1,1 b2,3", "a2,3 0 1,1", false},
		{"a(X, sum Y) :- b(X, Y).", "b1,1000000 b1,1 b2,3", "a2,3 0 2,3", true},
		{"a(least X) :- b(X).", "b5 b6", "a5 0 6", true},
		{"a(least X) :- b(X).", "b5 b6", "a6 0 6", false},
		{"a(most X) :- b(X).", "b5 b6", "a6 0 5", true},
		{"a(most X) :- b(X). c(X) :- a(X).", "b5 b6", "a6 0 5; c6 1 6", true},
		{"a(most X) :- b(X). c(X) :- a(X).", "b5 b6", "c6 1 6", false},
		// The document's example.
		{roads, said, "road2,3; way2,3 0 2,3; road3,1; way2,1 1 2,1,3", true},
		{roads, said, "out3,1 2 3,1; far3,2 3 3,2,1", true},
		{roads, said, "far3,2 3 3,2,1", false},
		{roads, said, "out2,2 2 2,1; far2,3 3 2,3,2", false},
		{roads, said, "road1,2; way1,2 0 1,2", false},
		{roads, "road1,2 road2,3 road3,1", "road1,2; way1,2 0 1,2", true},
	} {
		p := program(t, c.s)
		s := steps(t, p, c.steps)
		if is, e := Check(p, facts(t, p, c.facts), s); is != c.want || e != api.OK {
			t.Errorf("case %d: Check of %q, %q, %q: %v %d", i, c.s, c.facts, c.steps, is, e)
		}
	}
}

// distinct: are no two steps of one fact?
func distinct(s []api.Step) bool {
	var l []api.Fact
	for _, step := range s {
		l = append(l, step.Fact)
	}
	return len(relation.Set(l)) == len(l)
}

// I2, I3: of each fact that is asked for a proof, if there is one.
func TestProve(t *testing.T) {
	for _, c := range []struct{ s, facts, yes, no string }{
		{"a().", "", "a", ""},
		{"a() :- b().", "", "", "a b"},
		{"a() :- b().", "b", "a b", ""},
		{"a() :- b().", "b b b", "a b", ""},
		{"a() :- b(). b() :- a().", "", "", "a b"},
		{"a() :- b(). b() :- a().", "a", "a b", ""},
		{"a() :- a().", "", "", "a"},
		{"a() :- not b(). b() :- not c(). c() :- not d().", "", "a c", "b d"},
		{"a() :- not b(). b() :- not c(). c() :- not d().", "d", "b d", "a c"},
		{paths, "q1,2 q2,3 q3,4", "p1,2 p1,3 p1,4 p2,3 p2,4 p3,4 q1,2 q2,3 q3,4", "p1,1 p4,1 p2,1 q1,3 q2,1"},
		{paths, "q1,2 q2,1 p3,1", "p1,1 p1,2 p2,1 p2,2 p3,1 p3,2", "p3,3 p1,3 q1,1"},
		// A fact that hangs on itself by one rule, and has a proof by another one behind it.
		{"a(X) :- a(X), b(X). a(X) :- c(X). c(X) :- b(X), a(0). a(0).", "b1 b2", "a0 a1 a2 c1 c2", "a3 c0"},
		{"d() :- c(). c() :- b(). b() :- a(). a().", "", "a b c d", ""},
		{"a(X, count Y) :- b(X, Y). c(X, N) :- a(X, N), b(X, 6).", "b1,5 b1,6 b2,7 a2,9", "a1,2 a2,1 a2,9 c1,2", "a1,1 c2,1 a1,5"},
		{"a(sum X) :- b(X). c() :- not a(1000000).", "b1 b1000000", "c", "a1000000 a1"},
		{"a(sum X) :- b(X). c() :- not a(1000000).", "b999999 b1", "a1000000", "c a1"},
		{"a(least X) :- b(X). a(most X) :- b(X).", "b-5 b0 b6", "a-5 a6", "a0"},
		{roads, said, "way2,1 way2,3 way3,1 road1,2 toll2 out2,2 out3,1 far3,2", "way1,2 out1,1 out2,3 far2,3 toll1"},
		{roads, "road1,2 road2,3 road3,1", "way1,1 way1,2 way1,3 out1,3 out2,3", "out2,2 far3,2 far1,4 toll2"},
	} {
		p := program(t, c.s)
		l := facts(t, p, c.facts)
		for _, f := range facts(t, p, c.yes) {
			s, ok, e := Prove(p, l, f)
			is, g := Check(p, l, s)
			if !ok || e != api.OK || !is || g != api.OK || relation.Order(s[len(s)-1].Fact, f) != 0 || !distinct(s) {
				t.Errorf("Prove of %q, %q, %v: %v %v %d; %v %d", c.s, c.facts, f, s, ok, e, is, g)
			}
		}
		for _, f := range facts(t, p, c.no) {
			if s, ok, e := Prove(p, l, f); len(s) > 0 || ok || e != api.OK {
				t.Errorf("Prove of %q, %q, %v: %v %v %d", c.s, c.facts, f, s, ok, e)
			}
		}
	}
}

// I2: a proof has no step that it does not need, and what is given stands by itself.
func TestProveNoMore(t *testing.T) {
	for _, c := range []struct{ s, facts, fact, want string }{
		{paths, "q1,2 q2,3 q3,4 q7,8", "q2,3", "q2,3"},
		{paths, "q1,2 q2,3 q3,4 q7,8", "p2,3", "q2,3; p2,3 0 2,3"},
		{paths, "q7,8 q1,2 q2,3", "p1,3", "q1,2; q2,3; p1,2 0 1,2; p1,3 1 1,3,2"},
		{paths, "q1,2 p1,2", "p1,2", "p1,2"},
		{"a(). b().", "a", "a", "a"},
		{"a(). b().", "a", "b", "b 1"},
		{"a(X, count Y) :- b(X, Y).", "b1,5 b1,6", "a1,2", "a1,2 0 1,5"},
	} {
		p := program(t, c.s)
		s, ok, e := Prove(p, facts(t, p, c.facts), fact(t, p, c.fact))
		if fmt.Sprint(s) != fmt.Sprint(steps(t, p, c.want)) || !ok || e != api.OK {
			t.Errorf("Prove of %q, %q, %s: %v %v %d, want %s", c.s, c.facts, c.fact, s, ok, e, c.want)
		}
	}
}

// I1: as many steps as there may be, and one more, right or wrong.
func TestMaxSteps(t *testing.T) {
	p := program(t, paths)
	one := steps(t, p, "q1,2")
	l := facts(t, p, "q1,2")
	for i, c := range []struct {
		s    []api.Step
		is   bool
		want api.Errno
	}{
		{slices.Repeat(one, api.MaxSteps), true, api.OK},
		{slices.Repeat(one, api.MaxSteps+1), false, api.ErrMany},
		{make([]api.Step, api.MaxSteps), false, api.OK},
		{make([]api.Step, api.MaxSteps+1), false, api.ErrMany},
		{make([]api.Step, 100000), false, api.ErrMany},
	} {
		if is, e := Check(p, l, c.s); is != c.is || e != c.want {
			t.Errorf("case %d: %v %d, want %v %d", i, is, e, c.is, c.want)
		}
	}
}

// I1, I2, P1: errors of the model first, then of steps that are too many, or of the fact.
func TestErrors(t *testing.T) {
	many := make([]api.Step, api.MaxSteps+1)
	var full []api.Fact
	for i := range api.MaxFacts {
		full = append(full, f(0, i))
	}
	twice := program(t, "r(0).")
	twice.Names, twice.Arity = list("r", "r"), list(1, 1)
	for i, c := range []struct {
		p     api.Program
		l     []api.Fact
		model api.Errno
	}{
		{program(t, "r(0). a() :- r(X), not a()."), nil, api.ErrState},
		{program(t, "r(0). a() :- r(X), not a()."), append(full, f(9)), api.ErrState},
		{twice, nil, api.ErrTwice},
		{api.Program{Arity: list(1)}, nil, api.ErrForm},
		{program(t, "r(0)."), append(full, f(0, 0)), api.ErrMany},
		{program(t, "r(0)."), list(f(1)), api.ErrNone},
		{program(t, "r(0)."), list(f(0)), api.ErrForm},
		{program(t, "r(0)."), list(f(0, api.MaxNumber+1)), api.ErrRange},
		{program(t, "r(0). a(X) :- r(X)."), full, api.ErrMany},
		{program(t, "r(0). a() :- r(X), r(Y)."), full[:45], api.ErrMany},
		{program(t, "r(0)."), full, api.OK},
		{program(t, "r(0). r(1)."), nil, api.OK},
	} {
		for _, s := range [][]api.Step{nil, many, {{Rule: -7}}} {
			want := c.model
			if want == api.OK && len(s) > api.MaxSteps {
				want = api.ErrMany
			}
			if is, e := Check(c.p, c.l, s); is || e != want {
				t.Errorf("case %d: Check of %d steps: %v %d, want %d", i, len(s), is, e, want)
			}
		}
		for _, a := range []struct {
			f    api.Fact
			want api.Errno
		}{
			{f(-1), api.ErrNone},
			{f(math.MaxInt), api.ErrNone},
			{f(9, api.MaxNumber+1, 0, 0, 0), api.ErrNone},
			{f(0), api.ErrForm},
			{f(0, 1, 2), api.ErrForm},
			{f(0, math.MinInt, 2), api.ErrForm},
			{f(0, api.MaxNumber+1), api.ErrRange},
			{f(0, math.MinInt), api.ErrRange},
		} {
			want := c.model
			if want == api.OK {
				want = a.want
			}
			if s, ok, e := Prove(c.p, c.l, a.f); len(s) > 0 || ok || e != want {
				t.Errorf("case %d: Prove of %v: %v %v %d, want %d", i, a.f, s, ok, e, want)
			}
		}
	}
	if s, ok, e := Prove(api.Program{}, nil, f(0)); len(s) > 0 || ok || e != api.ErrNone {
		t.Errorf("Prove of nothing: %v %v %d", s, ok, e)
	}
	if is, e := Check(api.Program{}, nil, nil); is || e != api.OK {
		t.Errorf("Check of nothing: %v %d", is, e)
	}
}
