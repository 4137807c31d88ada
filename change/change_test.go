package change

import (
	"fmt"
	"math"
	"slices"
	"strconv"
	"strings"
	"testing"

	"groundwork/api"
	"groundwork/model"
	"groundwork/relation"
	"groundwork/scope"
)

func list[T any](l ...T) []T { return l }

func f(pred int, args ...int) api.Fact { return api.Fact{Pred: pred, Args: args} }

// program of a text.
func program(t *testing.T, s string) api.Program {
	p, at, e := scope.Program(s)
	if e != api.OK {
		t.Fatalf("Program(%q) is wrong at %d: %d", s, at, e)
	}
	return p
}

// facts of words: each a name and its numbers, as q1,2.
func facts(t *testing.T, p api.Program, s string) []api.Fact {
	var l []api.Fact
	for _, w := range strings.Fields(s) {
		name := strings.TrimRight(w, "-0123456789,")
		f := api.Fact{Pred: slices.Index(p.Names, name)}
		for _, s := range strings.FieldsFunc(w[len(name):], func(r rune) bool { return r == ',' }) {
			n, err := strconv.Atoi(s)
			if err != nil {
				t.Fatal(err)
			}
			f.Args = append(f.Args, n)
		}
		l = append(l, f)
	}
	return l
}

// told: facts as words.
func told(p api.Program, l []api.Fact) string {
	var words []string
	for _, f := range l {
		words = append(words, p.Names[f.Pred]+strings.Trim(strings.ReplaceAll(fmt.Sprint(f.Args), " ", ","), "[]"))
	}
	return strings.Join(words, " ")
}

// many facts of a predicate: each with one number, from some one on.
func many(pred, from, n int) []api.Fact {
	var l []api.Fact
	for i := range n {
		l = append(l, f(pred, from+i))
	}
	return l
}

// modelOf facts that have one.
func modelOf(t *testing.T, p api.Program, l []api.Fact) []api.Fact {
	m, e := model.Model(p, l)
	if e != api.OK {
		t.Fatalf("Model(%v, %v) = %d", p, l, e)
	}
	return m
}

// roads: the document's example, its facts apart.
const roads = "way(X, Y) :- road(X, Y), not toll(Y)." +
	"way(X, Z) :- way(X, Y), road(Y, Z), not toll(Z)." +
	"out(X, count Y) :- way(X, Y)." +
	"far(X, N) :- out(X, M), M + 1 = N, N < 3."

// J1: what is given then, and what came and went.
func TestApply(t *testing.T) {
	for _, c := range []struct{ s, given, puts, takes, then, came, went string }{
		{"", "", "", "", "", "", ""},
		{"a().", "", "", "", "", "", ""},
		{"a() :- b().", "b", "", "", "b", "", ""},
		{"a() :- b().", "", "b", "", "b", "a b", ""},
		{"a() :- b().", "b", "", "b", "", "", "a b"},
		// What is there already, what is not there, things twice, and in whatever order.
		{"a() :- b().", "b", "b", "", "b", "", ""},
		{"a() :- b().", "", "", "b", "", "", ""},
		{"a(X) :- b(X).", "b3 b1 b3 b2", "b5 b4 b5", "b1 b1 b7", "b2 b3 b4 b5", "a4 a5 b4 b5", "a1 b1"},
		// What is put and taken is there.
		{"a() :- b().", "b", "b", "b", "b", "", ""},
		{"a() :- b().", "", "b", "b", "b", "a b", ""},
		{"a(X) :- b(X).", "b1 b2", "b2 b3", "b1 b2 b3", "b2 b3", "a3 b3", "a1 b1"},
		// What follows is not given: it can't be taken, and stays if it is put.
		{"a() :- b().", "b", "", "a", "b", "", ""},
		{"a() :- b().", "b", "a", "", "a b", "", ""},
		{"a() :- b().", "a b", "", "b", "a", "", "b"},
		{"a() :- b().", "a b", "", "a", "b", "", ""},
		{"a(1). b(X) :- a(X).", "a1", "", "a1", "", "", ""},
		// What comes goes by what is not.
		{"a(X) :- b(X), not c(X).", "b1 b2 c1", "c2", "c1", "b1 b2 c2", "a1 c2", "a2 c1"},
		{"a() :- not b(). b() :- not c().", "", "c", "", "c", "a c", "b"},
		{"p(X, Y) :- q(X, Y). p(X, Z) :- p(X, Y), q(Y, Z).", "q1,2 q2,3", "q3,1", "q2,3", "q1,2 q3,1", "p3,1 p3,2 q3,1", "p1,3 p2,3 q2,3"},
		{"a(X, count Y) :- b(X, Y).", "b1,5 b1,6 b2,7", "b1,7", "b2,7", "b1,5 b1,6 b1,7", "a1,3 b1,7", "a1,2 a2,1 b2,7"},
		{"a(sum X) :- b(X).", "b1 b2", "b1000000", "", "b1 b2 b1000000", "b1000000", "a3"},
		// The document's example: the toll is taken back.
		{roads, "road1,2 road2,3 road3,1 toll2", "", "toll2", "road1,2 road2,3 road3,1", "way1,1 way1,2 way1,3 way2,2 way3,2 way3,3 out1,3 out2,3 out3,3", "toll2 out2,2 out3,1 far3,2"},
		{roads, "road1,2 road2,3 road3,1", "toll2", "", "road1,2 road2,3 road3,1 toll2", "toll2 out2,2 out3,1 far3,2", "way1,1 way1,2 way1,3 way2,2 way3,2 way3,3 out1,3 out2,3 out3,3"},
	} {
		p := program(t, c.s)
		l := facts(t, p, c.given)
		given, m, d, e := Apply(p, l, modelOf(t, p, l), facts(t, p, c.puts), facts(t, p, c.takes))
		got := list(told(p, given), told(p, m), told(p, d.Came), told(p, d.Went))
		want := list(c.then, told(p, modelOf(t, p, facts(t, p, c.then))), c.came, c.went)
		if !slices.Equal(got, want) || e != api.OK {
			t.Errorf("Apply of %q, %q, %q, %q: %q %d, want %q", c.s, c.given, c.puts, c.takes, got, e, want)
		}
	}
}

// J1: m must be the model, in whatever order and however often its facts come.
func TestApplyModel(t *testing.T) {
	p := program(t, "a(X) :- b(X). a(X) :- c(X).")
	l := facts(t, p, "b2 b1")
	for _, c := range []struct {
		m    []api.Fact
		want api.Errno
	}{
		{facts(t, p, "a1 a2 b1 b2"), api.OK},
		{facts(t, p, "b2 a1 b1 a2"), api.OK},
		{facts(t, p, "b2 a1 b1 b2 a1 a2 b2 b2"), api.OK},
		{slices.Repeat(facts(t, p, "b2 a2 a1 b1"), api.MaxFacts), api.OK},
		{nil, api.ErrState},
		{facts(t, p, "b1 b2"), api.ErrState},
		{facts(t, p, "a1 a2 b1"), api.ErrState},
		{facts(t, p, "a1 b1 b2"), api.ErrState},
		{facts(t, p, "a1 a2 b1 b2 c1"), api.ErrState},
		{facts(t, p, "a1 a2 a3 b1 b2"), api.ErrState},
		{facts(t, p, "a1 a2 b1 b3"), api.ErrState},
		// Wrong facts are none of the model either.
		{append(facts(t, p, "a1 a2 b1 b2"), f(7)), api.ErrState},
		{append(facts(t, p, "a1 a2 b1 b2"), f(-1)), api.ErrState},
		{append(facts(t, p, "a1 a2 b1 b2"), f(0)), api.ErrState},
		{append(facts(t, p, "a1 a2 b1 b2"), f(0, 1, 2)), api.ErrState},
		{append(facts(t, p, "a1 a2 b1 b2"), f(0, math.MaxInt)), api.ErrState},
		{many(0, 0, 1000), api.ErrState},
	} {
		given, m, d, e := Apply(p, l, c.m, facts(t, p, "b3"), facts(t, p, "b1"))
		got, want := fmt.Sprint(given, m, d), "[] [] {[] []}"
		if c.want == api.OK {
			want = fmt.Sprint(facts(t, p, "b2 b3"), facts(t, p, "a2 a3 b2 b3"), api.Change{Came: facts(t, p, "a3 b3"), Went: facts(t, p, "a1 b1")})
		}
		if e != c.want || got != want {
			t.Errorf("Apply of %v: %s %d, want %s %d", c.m, got, e, want, c.want)
		}
	}
}

// J1, P1: of errors that apply the one that is named first, and nothing beside it.
func TestErrors(t *testing.T) {
	p := program(t, "r(0). a() :- r(X), r(Y).")
	round := program(t, "r(0). a() :- r(X), not a().")
	copied := program(t, "r(0). s(X) :- r(X).")
	full := many(0, 0, api.MaxFacts)
	more := slices.Concat(full, full[:1])
	start := modelOf(t, p, nil)
	for i, c := range []struct {
		p                 api.Program
		l, m, puts, takes []api.Fact
		want              api.Errno
	}{
		{p, nil, start, nil, nil, api.OK},
		{p, nil, start, nil, full, api.OK},
		{p, nil, start, slices.Repeat(full[:1], api.MaxFacts), slices.Repeat(full[1:2], api.MaxFacts), api.OK},
		// Those of the model of l, ahead of all else.
		{round, more, nil, more, more, api.ErrState},
		{round, list(f(9)), nil, list(f(9)), nil, api.ErrState},
		{api.Program{Arity: list(1)}, more, nil, more, nil, api.ErrForm},
		{p, more, nil, list(f(9)), nil, api.ErrMany},
		{p, list(f(9)), nil, more, nil, api.ErrNone},
		{p, list(f(0)), nil, list(f(9)), more, api.ErrForm},
		{p, list(f(0, api.MaxNumber+1)), nil, list(f(9)), list(f(9)), api.ErrRange},
		{copied, full, nil, list(f(9)), nil, api.ErrMany},
		{p, full[:45], nil, list(f(9)), full, api.ErrMany},
		// Too many puts, or takes, right or wrong.
		{p, nil, start, more, nil, api.ErrMany},
		{p, nil, start, nil, more, api.ErrMany},
		{p, nil, nil, more, list(f(9)), api.ErrMany},
		{p, nil, nil, list(f(9)), more, api.ErrMany},
		{p, nil, nil, make([]api.Fact, 1000), nil, api.ErrMany},
		{p, nil, nil, nil, make([]api.Fact, 1000), api.ErrMany},
		// What is wrong with one, of puts first.
		{p, nil, nil, list(f(0, 1), f(9)), list(f(0)), api.ErrNone},
		{p, nil, nil, list(f(0, 1), f(0)), list(f(9)), api.ErrForm},
		{p, nil, nil, list(f(0, 1), f(0, -api.MaxNumber-1)), list(f(9)), api.ErrRange},
		{p, nil, nil, full, list(f(0, 1), f(-1)), api.ErrNone},
		{p, nil, nil, full, list(f(1, 1)), api.ErrForm},
		{p, nil, nil, full, list(f(0, math.MaxInt)), api.ErrRange},
		// That m is not the model.
		{p, nil, nil, nil, nil, api.ErrState},
		{p, nil, list(f(9)), nil, nil, api.ErrState},
		{p, nil, nil, full, nil, api.ErrState},
		{p, full[:44], start, full, nil, api.ErrState},
		// Those of the model of what is given then.
		{p, nil, start, full, nil, api.ErrMany},
		{p, nil, start, full[:44], nil, api.OK},
		{p, nil, start, full[:45], nil, api.ErrMany},
		{copied, nil, modelOf(t, copied, nil), full[:30], nil, api.OK},
		{copied, nil, modelOf(t, copied, nil), full[:31], nil, api.ErrMany},
		{copied, full[:30], modelOf(t, copied, full[:30]), many(0, 30, 29), full[1:30], api.OK},
		{copied, full[:30], modelOf(t, copied, full[:30]), many(0, 30, 30), full[1:30], api.ErrMany},
	} {
		given, m, d, e := Apply(c.p, c.l, c.m, c.puts, c.takes)
		if e != c.want || e != api.OK && fmt.Sprint(given, m, d) != "[] [] {[] []}" {
			t.Errorf("case %d: %v %v %v %d, want %d", i, given, m, d, e, c.want)
		}
	}
}

// J1: as much is given then as may be, and one more, though each of what is handed in is not too much.
func TestMaxFacts(t *testing.T) {
	p := program(t, "a() :- r(0), s().")
	l := many(1, 1, api.MaxFacts)
	m := modelOf(t, p, l)
	for _, c := range []struct {
		puts, takes []api.Fact
		want        int // how much is given then; -1: too much
	}{
		{nil, nil, api.MaxFacts},
		{l, nil, api.MaxFacts},
		{list(f(1, 100)), nil, -1},
		{list(f(1, 100)), l[:1], api.MaxFacts},
		{list(f(1, 100), f(1, 101)), l[:1], -1},
		{many(1, 100, api.MaxFacts), l, api.MaxFacts},
		{many(1, 100, api.MaxFacts), l[1:], -1},
		{l, l, api.MaxFacts},
		{nil, l, 0},
		// a() would be one more.
		{list(f(1, 0), f(2)), l[:2], -1},
		{list(f(1, 0), f(2)), l[:3], api.MaxFacts - 1},
	} {
		given, _, _, e := Apply(p, l, m, c.puts, c.takes)
		if e != api.OK && (e != api.ErrMany || c.want >= 0) || e == api.OK && len(given) != c.want {
			t.Errorf("Apply(%v, %v): %d given, %d, want %d", c.puts, c.takes, len(given), e, c.want)
		}
	}
}

// J2: what went goes, then what came comes; of any facts, in whatever order.
func TestPlay(t *testing.T) {
	wild := f(math.MinInt, math.MaxInt, 0, 0, 0, 0)
	for _, c := range []struct{ m, came, went, want []api.Fact }{
		{nil, nil, nil, nil},
		{nil, nil, list(f(1)), nil},
		{nil, list(f(2), f(1), f(2)), nil, list(f(1), f(2))},
		{list(f(3), f(1), f(3)), nil, nil, list(f(1), f(3))},
		{list(f(3), f(1), f(3)), nil, list(f(3)), list(f(1))},
		{list(f(3), f(1), f(3)), list(f(2)), list(f(3), f(4), f(3)), list(f(1), f(2))},
		// What came and went is there.
		{list(f(1)), list(f(1)), list(f(1)), list(f(1))},
		{nil, list(f(1)), list(f(1)), list(f(1))},
		{list(f(1, 2), f(1)), list(f(1, 1)), list(f(1)), list(f(1, 1), f(1, 2))},
		{list(f(0), wild), list(f(-1, 5)), list(api.Fact{Args: []int{}}), list(wild, f(-1, 5))},
		{many(0, 0, 1000), many(0, 1000, 1000), many(0, 500, 500), slices.Concat(many(0, 0, 500), many(0, 1000, 1000))},
	} {
		if got := Play(c.m, api.Change{Came: c.came, Went: c.went}); fmt.Sprint(got) != fmt.Sprint(c.want) {
			t.Errorf("Play(%v, %v, %v) = %v, want %v", c.m, c.came, c.went, got, c.want)
		}
	}
}

// J3: by hand, a change and the one back.
func TestBack(t *testing.T) {
	p := program(t, roads)
	l := facts(t, p, "road1,2 road2,3 road3,1 toll2")
	m := modelOf(t, p, l)
	given, n, there, e := Apply(p, l, m, facts(t, p, "road1,3"), facts(t, p, "toll2 road3,1"))
	again, o, back, g := Apply(p, given, n, facts(t, p, "toll2 road3,1"), facts(t, p, "road1,3"))
	if e != api.OK || g != api.OK || told(p, again) != told(p, relation.Set(l)) || told(p, o) != told(p, m) {
		t.Errorf("back at %s %s: %d %d", told(p, again), told(p, o), e, g)
	}
	if told(p, Play(m, there)) != told(p, n) || told(p, Play(Play(m, there), back)) != told(p, m) {
		t.Errorf("played: %v, %v", there, back)
	}
	if told(p, there.Came) != told(p, back.Went) || told(p, there.Went) != told(p, back.Came) || len(there.Came) == 0 || len(there.Went) == 0 {
		t.Errorf("there %v, back %v", there, back)
	}
}
