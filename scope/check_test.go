package scope

import (
	"reflect"
	"slices"
	"strings"
	"testing"

	"groundwork/api"
)

// draw numbers for programs that are put together at random; the same each time.
type draw uint64

func (d *draw) n(n int) int {
	*d = *d*6364136223846793005 + 1442695040888963407
	return int(uint64(*d) >> 33 % uint64(n))
}

func pick[T any](d *draw, l []T) T { return l[d.n(len(l))] }

func v(k int) api.Term { return api.Term{Var: k} }
func n(n int) api.Term { return api.Term{Var: -1, N: n} }

func list[T any](l ...T) []T { return l }

func yes(pred int, l ...api.Term) api.Lit { return api.Lit{Kind: api.LitYes, Pred: pred, Terms: l} }
func no(pred int, l ...api.Term) api.Lit  { return api.Lit{Kind: api.LitNot, Pred: pred, Terms: l} }
func test(op int, l ...api.Term) api.Lit  { return api.Lit{Kind: api.LitTest, Op: op, Terms: l} }
func calc(op int, l ...api.Term) api.Lit  { return api.Lit{Kind: api.LitCalc, Op: op, Terms: l} }

// right: a program in which nothing is wrong, with all there is, in new memory:
//
//	a(X, most Y) :- b(X), not b(X), X < 2, X + 1 = Y.
//	a(X, 5) :- b(X), b(X).
//	c().
func right() api.Program {
	return api.Program{
		Arity: list(2, 1, 0),
		Names: list("a", "b", "c"),
		Rules: []api.Rule{
			{Terms: list(v(0), v(1)), Fold: api.FoldMost, Vars: 2, Body: list(yes(1, v(0)), no(1, v(0)), test(api.OpLess, v(0), n(2)), calc(api.OpAdd, v(0), n(1), v(1)))},
			{Terms: list(v(0), n(5)), Vars: 1, Body: list(yes(1, v(0)), yes(1, v(0)))},
			{Pred: 2},
		},
	}
}

// spoil: something that makes a program wrong, and what Check then answers.
type spoil struct {
	do   func(p *api.Program)
	want api.Errno
}

// spoils in the order in which the document names what is wrong.
func spoils() []spoil {
	return slices.Concat(spoilsOfNames(), spoilsOfHead(), spoilsOfFacts(), spoilsOfReckonings(), list(
		// At last of a rule; then the next rule.
		spoil{func(p *api.Program) { p.Rules[0].Body[3].Terms[2] = n(1) }, api.ErrState},
		spoil{func(p *api.Program) { p.Rules[1].Pred = 3 }, api.ErrNone},
		spoil{func(p *api.Program) { p.Rules[1].Body[1].Op = 1 }, api.ErrRange},
		spoil{func(p *api.Program) { p.Rules[1].Vars = 2 }, api.ErrState},
		spoil{func(p *api.Program) { p.Rules[2].Pred = -1 }, api.ErrNone},
		spoil{func(p *api.Program) { p.Rules[2].Fold = api.FoldCount }, api.ErrForm},
		spoil{func(p *api.Program) { p.Rules[2].Fold, p.Rules[2].Body = api.FoldCount, list(yes(2)) }, api.ErrForm},
	))
}

func spoilsOfNames() []spoil {
	return []spoil{
		{func(p *api.Program) { p.Arity = append(p.Arity, make([]int, 8)...) }, api.ErrMany},
		{func(p *api.Program) { p.Rules = append(p.Rules, make([]api.Rule, 10)...) }, api.ErrMany},
		{func(p *api.Program) { p.Names = list("a", "b", "c", "d", "e") }, api.ErrForm},
		{func(p *api.Program) { p.Arity = append(p.Arity, 9) }, api.ErrForm},
		{func(p *api.Program) { p.Names = p.Names[1:] }, api.ErrForm},
		{func(p *api.Program) { p.Arity[0] = -1 }, api.ErrRange},
		{func(p *api.Program) { p.Arity[0] = 4 }, api.ErrRange},
		{func(p *api.Program) { p.Names[0] = "" }, api.ErrForm},
		{func(p *api.Program) { p.Arity[1] = 4 }, api.ErrRange},
		{func(p *api.Program) { p.Names[1] = "B" }, api.ErrForm},
		{func(p *api.Program) { p.Names[1] = "a" }, api.ErrTwice},
		{func(p *api.Program) { p.Arity[2] = -1 }, api.ErrRange},
		{func(p *api.Program) { p.Names[2] = "sum" }, api.ErrForm},
		{func(p *api.Program) { p.Names[2] = "a" }, api.ErrTwice},
	}
}

func spoilsOfHead() []spoil {
	return []spoil{
		{func(p *api.Program) { p.Rules[0].Pred = -1 }, api.ErrNone},
		{func(p *api.Program) { p.Rules[0].Pred = 3 }, api.ErrNone},
		{func(p *api.Program) { p.Rules[0].Pred = 1 }, api.ErrForm},
		{func(p *api.Program) { p.Rules[0].Terms = append(p.Rules[0].Terms, n(1)) }, api.ErrForm},
		{func(p *api.Program) { p.Rules[0].Vars = -1 }, api.ErrRange},
		{func(p *api.Program) { p.Rules[0].Vars = api.MaxVars + 1 }, api.ErrRange},
		{func(p *api.Program) { p.Rules[0].Terms[0].Var = -2 }, api.ErrNone},
		{func(p *api.Program) { p.Rules[0].Terms[0].Var = 2 }, api.ErrNone},
		{func(p *api.Program) { p.Rules[0].Terms[0] = n(api.MaxNumber + 1) }, api.ErrRange},
		{func(p *api.Program) { p.Rules[0].Terms[0].N = 1 }, api.ErrRange},
		{func(p *api.Program) { p.Rules[0].Terms[1].Var = 99 }, api.ErrNone},
		{func(p *api.Program) { p.Rules[0].Terms[1] = n(-api.MaxNumber - 1) }, api.ErrRange},
		{func(p *api.Program) { p.Rules[0].Fold = -1 }, api.ErrKind},
		{func(p *api.Program) { p.Rules[0].Fold = api.FoldMost + 1 }, api.ErrKind},
		{func(p *api.Program) { p.Rules[0].Body = nil }, api.ErrForm},
		{func(p *api.Program) { p.Rules[0].Body = append(p.Rules[0].Body, yes(1, v(0))) }, api.ErrMany},
	}
}

// spoilsOfFacts: of LitYes and LitNot.
func spoilsOfFacts() []spoil {
	var l []spoil
	for i := range 2 {
		lit := func(p *api.Program) *api.Lit { return &p.Rules[0].Body[i] }
		l = append(l, []spoil{
			{func(p *api.Program) { lit(p).Kind = 0 }, api.ErrKind},
			{func(p *api.Program) { lit(p).Kind = api.LitCalc + 1 }, api.ErrKind},
			{func(p *api.Program) { lit(p).Op = -1 }, api.ErrRange},
			{func(p *api.Program) { lit(p).Op = api.OpLess }, api.ErrRange},
			{func(p *api.Program) { lit(p).Pred = -1 }, api.ErrNone},
			{func(p *api.Program) { lit(p).Pred = 3 }, api.ErrNone},
			{func(p *api.Program) { lit(p).Pred = 0 }, api.ErrForm},
			{func(p *api.Program) { lit(p).Terms = nil }, api.ErrForm},
			{func(p *api.Program) { lit(p).Terms = list(n(-api.MaxNumber-1), v(9), v(9)) }, api.ErrForm},
			{func(p *api.Program) { lit(p).Terms[0].Var = 2 }, api.ErrNone},
			{func(p *api.Program) { lit(p).Terms[0].N = -1 }, api.ErrRange},
		}...)
	}
	return l
}

// spoilsOfReckonings: of LitTest and LitCalc.
func spoilsOfReckonings() []spoil {
	var l []spoil
	for i := 2; i < 4; i++ {
		lit := func(p *api.Program) *api.Lit { return &p.Rules[0].Body[i] }
		ops := [...][2]int{{0, api.OpAdd}, {api.OpOther, api.OpMul + 1}}[i-2]
		l = append(l, []spoil{
			{func(p *api.Program) { lit(p).Kind = -1 }, api.ErrKind},
			{func(p *api.Program) { lit(p).Op = ops[0] }, api.ErrRange},
			{func(p *api.Program) { lit(p).Op = ops[1] }, api.ErrRange},
			{func(p *api.Program) { lit(p).Pred = 1 }, api.ErrForm},
			{func(p *api.Program) { lit(p).Terms = lit(p).Terms[:1] }, api.ErrForm},
			{func(p *api.Program) { lit(p).Terms = append(lit(p).Terms, v(0)) }, api.ErrForm},
			{func(p *api.Program) { lit(p).Terms[0].Var = -2 }, api.ErrNone},
			{func(p *api.Program) { lit(p).Terms[1].N = api.MaxNumber + 1 }, api.ErrRange},
		}...)
	}
	return l
}

// D1: what is right, and each thing that is wrong.
func TestCheck(t *testing.T) {
	for i, p := range []api.Program{{}, {Arity: []int{}, Names: []string{}, Rules: []api.Rule{}}, right()} {
		if e := Check(p); e != api.OK {
			t.Errorf("right program %d: Check is %d", i, e)
		}
	}
	for i, s := range spoils() {
		p := right()
		s.do(&p)
		if e := Check(p); e != s.want {
			t.Errorf("spoil %d: Check(%v) = %d, want %d", i, p, e, s.want)
		}
	}
}

// D1, P1: of two things that are wrong, what the document names first is answered. (Made wrong last, so that the other does not undo it.)
func TestCheckErrorsInOrder(t *testing.T) {
	all := spoils()
	tried := 0
	for j := range all {
		for i := range j {
			p := right()
			all[j].do(&p)
			// Some need what another has taken away: those two can't be wrong together.
			if !done(all[i], &p) {
				continue
			}
			tried++
			if e := Check(p); e != all[i].want {
				t.Errorf("spoils %d and %d: Check(%v) = %d, want %d", i, j, p, e, all[i].want)
			}
		}
	}
	if most := len(all) * (len(all) - 1) / 2; tried < most*9/10 {
		t.Errorf("only %d of %d pairs could be tried", tried, most)
	}
}

// done: could a program be spoiled so?
func done(s spoil, p *api.Program) (ok bool) {
	defer func() { ok = recover() == nil }()
	s.do(p)
	return true
}

// D1: names are those of chapter 2.
func TestCheckNames(t *testing.T) {
	for _, c := range []struct {
		name string
		want api.Errno
	}{
		{"a", api.OK},
		{"zZ09", api.OK},
		{"nots", api.OK},
		{strings.Repeat("a", api.MaxName), api.OK},
		{strings.Repeat("a", api.MaxName+1), api.ErrForm},
		{strings.Repeat("a", api.MaxText+1), api.ErrForm},
		{"", api.ErrForm},
		{"A", api.ErrForm},
		{"1", api.ErrForm},
		{"(", api.ErrForm},
		{" a", api.ErrForm},
		{"a b", api.ErrForm},
		{"a%", api.ErrForm},
		{"a().b", api.ErrForm},
		{"\xff", api.ErrForm},
		{"not", api.ErrForm},
		{"count", api.ErrForm},
		{"sum", api.ErrForm},
		{"least", api.ErrForm},
		{"most", api.ErrForm},
	} {
		if e := Check(api.Program{Arity: list(0), Names: list(c.name)}); e != c.want {
			t.Errorf("name %.20q: Check is %d, want %d", c.name, e, c.want)
		}
	}
}

// names of so many predicates.
func names(many int) []string {
	var l []string
	for i := range many {
		l = append(l, "p"+strings.Repeat("x", i))
	}
	return l
}

// wide: a program of one rule with so many variables, all of them bound.
func wide(vars int) api.Program {
	p := api.Program{Arity: list(0, 3), Names: list("a", "b"), Rules: []api.Rule{{Vars: vars}}}
	l := slices.Repeat(list(n(0)), 12)
	for k := range vars {
		l[k] = v(k)
	}
	p.Rules[0].Body = list(yes(1, l[:3]...), yes(1, l[3:6]...), yes(1, l[6:9]...))
	return p
}

// D1: MaxPreds, MaxRules, MaxArity, MaxVars, MaxBody, MaxNumber, and one beyond each.
func TestCheckLimits(t *testing.T) {
	number := func(k int) api.Program {
		return api.Program{Arity: list(1), Names: list("a"), Rules: []api.Rule{{Terms: list(n(k))}}}
	}
	for i, c := range []struct {
		made  func(k int) api.Program
		most  int
		first api.Errno // one beyond
	}{
		{func(k int) api.Program { return api.Program{Arity: make([]int, k), Names: names(k)} }, api.MaxPreds, api.ErrMany},
		{func(k int) api.Program {
			return api.Program{Arity: list(0), Names: list("a"), Rules: make([]api.Rule, k)}
		}, api.MaxRules, api.ErrMany},
		{func(k int) api.Program { return api.Program{Arity: list(k), Names: list("a")} }, api.MaxArity, api.ErrRange},
		{wide, api.MaxVars, api.ErrRange},
		{func(k int) api.Program {
			return api.Program{Arity: list(0), Names: list("a"), Rules: []api.Rule{{Body: slices.Repeat(list(yes(0)), k)}}}
		}, api.MaxBody, api.ErrMany},
		{number, api.MaxNumber, api.ErrRange},
		{func(k int) api.Program { return number(-k) }, api.MaxNumber, api.ErrRange},
	} {
		if e := Check(c.made(c.most)); e != api.OK {
			t.Errorf("limit %d: Check is %d", i, e)
		}
		if e := Check(c.made(c.most + 1)); e != c.first {
			t.Errorf("limit %d: Check of one beyond is %d, want %d", i, e, c.first)
		}
	}
}

// D1: numbers as far from all others as there are.
func TestCheckFarNumbers(t *testing.T) {
	const far = 1<<63 - 1
	for _, k := range []int{far, -far - 1} {
		for i, c := range []struct {
			do   func(p *api.Program)
			want api.Errno
		}{
			{func(p *api.Program) { p.Arity[1] = k }, api.ErrRange},
			{func(p *api.Program) { p.Rules[0].Pred = k }, api.ErrNone},
			{func(p *api.Program) { p.Rules[0].Vars = k }, api.ErrRange},
			{func(p *api.Program) { p.Rules[0].Fold = k }, api.ErrKind},
			{func(p *api.Program) { p.Rules[0].Terms[0].Var = k }, api.ErrNone},
			{func(p *api.Program) { p.Rules[0].Terms[0].N = k }, api.ErrRange},
			{func(p *api.Program) { p.Rules[1].Terms[1].N = k }, api.ErrRange},
			{func(p *api.Program) { p.Rules[0].Body[0].Kind = k }, api.ErrKind},
			{func(p *api.Program) { p.Rules[0].Body[0].Op = k }, api.ErrRange},
			{func(p *api.Program) { p.Rules[0].Body[0].Pred = k }, api.ErrNone},
			{func(p *api.Program) { p.Rules[0].Body[2].Pred = k }, api.ErrForm},
			{func(p *api.Program) { p.Rules[0].Body[3].Terms[2].Var = k }, api.ErrNone},
		} {
			p := right()
			c.do(&p)
			if e := Check(p); e != c.want {
				t.Errorf("%d in place %d: Check is %d, want %d", k, i, e, c.want)
			}
		}
	}
}

// rule: a program of one rule with these literals and so many variables; b has one term.
func rule(vars int, l ...api.Lit) api.Program {
	return api.Program{Arity: list(0, 1), Names: list("a", "b"), Rules: []api.Rule{{Vars: vars, Body: l}}}
}

// D1: which rules are safe.
func TestCheckSafe(t *testing.T) {
	add := api.OpAdd
	for i, c := range []struct {
		p    api.Program
		safe bool
	}{
		{rule(0), true},
		{rule(1), false},
		{rule(1, yes(1, v(0))), true},
		{rule(2, yes(1, v(0))), false},
		{rule(2, yes(1, v(1))), false},
		{rule(1, no(1, v(0))), false},
		{rule(1, no(1, v(0)), yes(1, v(0))), true},
		{rule(1, test(api.OpSame, v(0), n(1))), false},
		{rule(1, test(api.OpSame, n(1), v(0))), false},
		{rule(2, yes(1, v(0)), test(api.OpSame, v(0), v(1))), false},
		{rule(1, calc(add, n(1), n(2), v(0))), true},
		{rule(1, calc(api.OpSub, n(1), n(2), v(0))), true},
		{rule(1, calc(api.OpMul, n(1), n(2), v(0))), true},
		{rule(1, calc(add, v(0), n(2), n(3))), false},
		{rule(1, calc(add, n(2), v(0), n(3))), false},
		{rule(1, calc(add, v(0), n(1), v(0))), false},
		{rule(1, calc(add, n(1), v(0), v(0))), false},
		{rule(2, yes(1, v(0)), calc(add, v(0), v(0), v(1))), true},
		{rule(2, yes(1, v(0)), calc(add, v(0), v(1), v(1))), false},
		{rule(2, yes(1, v(0)), calc(add, v(1), v(0), v(1))), false},
		{rule(2, yes(1, v(1)), calc(add, v(0), n(0), v(1))), false},
		{rule(2, calc(add, v(0), n(1), v(1)), yes(1, v(0))), true},
		{rule(4, calc(add, v(2), n(1), v(3)), calc(add, v(1), n(1), v(2)), calc(add, v(0), n(1), v(1)), yes(1, v(0))), true},
		{rule(4, calc(add, v(2), n(1), v(3)), calc(add, v(1), n(1), v(2)), calc(add, v(0), n(1), v(1)), calc(add, n(0), n(1), v(0))), true},
		{rule(4, calc(add, v(2), n(1), v(3)), calc(add, v(1), n(1), v(2)), calc(add, v(0), n(1), v(1)), no(1, v(0))), false},
		{rule(2, calc(add, v(0), n(1), v(1)), calc(add, v(1), n(1), v(0))), false},
		{rule(2, calc(add, v(0), n(1), v(1)), calc(add, v(1), n(1), v(0)), yes(1, v(1))), true},
		{rule(3, calc(add, v(0), v(1), v(2)), yes(1, v(0)), yes(1, v(1))), true},
		{rule(3, calc(add, v(0), v(1), v(2)), yes(1, v(0)), no(1, v(1))), false},
	} {
		want := api.ErrState
		if c.safe {
			want = api.OK
		}
		if e := Check(c.p); e != want {
			t.Errorf("rule %d: Check is %d, want %d", i, e, want)
		}
	}
	head := rule(1)
	head.Rules[0].Pred, head.Rules[0].Terms = 1, list(v(0))
	if e := Check(head); e != api.ErrState {
		t.Errorf("a variable of the head alone: Check is %d", e)
	}
}

// closed: does a set of variables (a bit for each) hold all that the literals bind, if those of the set are bound?
func closed(set int, body []api.Lit) bool {
	in := func(t api.Term) bool { return t.Var < 0 || set>>t.Var&1 == 1 }
	for _, l := range body {
		switch l.Kind {
		case api.LitYes:
			if !in(l.Terms[0]) {
				return false
			}
		case api.LitCalc:
			if in(l.Terms[0]) && in(l.Terms[1]) && !in(l.Terms[2]) {
				return false
			}
		}
	}
	return true
}

// D1: a rule is safe just if no smaller set than that of all its variables is closed.
func TestCheckSafeAtRandom(t *testing.T) {
	d := draw(1)
	safe := 0
	for range 20000 {
		vars := d.n(3) + 1
		term := func() api.Term { return v(d.n(vars+1) - 1) }
		var body []api.Lit
		for range d.n(api.MaxBody + 1) {
			body = append(body, pick(&d, list(yes(1, term()), no(1, term()), test(api.OpSame, term(), term()), calc(api.OpSub, term(), term(), term()), calc(api.OpAdd, term(), term(), term()))))
		}
		want := api.OK
		for set := range 1<<vars - 1 {
			if closed(set, body) {
				want = api.ErrState
			}
		}
		if want == api.OK {
			safe++
		}
		if e := Check(rule(vars, body...)); e != want {
			t.Fatalf("Check of %d variables, %v: %d, want %d", vars, body, e, want)
		}
	}
	if safe < 2000 || safe > 18000 {
		t.Errorf("%d rules were safe", safe)
	}
}

// D3: facts, right and wrong; the program first.
func TestFact(t *testing.T) {
	wrong := right()
	wrong.Names[0] = "not"
	unsafe := right()
	unsafe.Rules[0].Vars = 3
	const most, far = api.MaxNumber, 1<<63 - 1
	for i, c := range []struct {
		p    api.Program
		f    api.Fact
		want api.Errno
	}{
		{right(), api.Fact{Args: list(1, 2)}, api.OK},
		{right(), api.Fact{Pred: 1, Args: list(0)}, api.OK},
		{right(), api.Fact{Pred: 2}, api.OK},
		{right(), api.Fact{Pred: 2, Args: []int{}}, api.OK},
		{right(), api.Fact{Args: list(most, -most)}, api.OK},
		{right(), api.Fact{Args: list(most+1, 0)}, api.ErrRange},
		{right(), api.Fact{Args: list(0, most+1)}, api.ErrRange},
		{right(), api.Fact{Args: list(-most-1, 0)}, api.ErrRange},
		{right(), api.Fact{Args: list(0, -most-1)}, api.ErrRange},
		{right(), api.Fact{Pred: 1, Args: list(far)}, api.ErrRange},
		{right(), api.Fact{Pred: 1, Args: list(-far - 1)}, api.ErrRange},
		{right(), api.Fact{}, api.ErrForm},
		{right(), api.Fact{Args: list(1)}, api.ErrForm},
		{right(), api.Fact{Args: list(1, 2, 3)}, api.ErrForm},
		{right(), api.Fact{Pred: 2, Args: list(1)}, api.ErrForm},
		{right(), api.Fact{Args: list(most + 1)}, api.ErrForm},
		{right(), api.Fact{Pred: 3, Args: list(1, 2)}, api.ErrNone},
		{right(), api.Fact{Pred: -1, Args: list(1, 2)}, api.ErrNone},
		{right(), api.Fact{Pred: far}, api.ErrNone},
		{right(), api.Fact{Pred: -far - 1, Args: list(most + 1)}, api.ErrNone},
		{api.Program{}, api.Fact{}, api.ErrNone},
		{wrong, api.Fact{Args: list(1, 2)}, api.ErrForm},
		{wrong, api.Fact{Pred: 3, Args: list(most + 1)}, api.ErrForm},
		{unsafe, api.Fact{Args: list(1, 2)}, api.ErrState},
		{unsafe, api.Fact{Pred: -1}, api.ErrState},
		{unsafe, api.Fact{Args: list(1)}, api.ErrState},
	} {
		if e := Fact(c.p, c.f); e != c.want {
			t.Errorf("fact %d: Fact(%v) = %d, want %d", i, c.f, e, c.want)
		}
	}
}

// spare: a list with more behind it.
func spare[T any](l []T, more ...T) []T { return slices.Concat(l, more)[: len(l) : len(l)+len(more)] }

// P2: Check and Fact only read, the spare room of lists too.
func TestCheckOnlyReads(t *testing.T) {
	room := func() (api.Program, api.Fact) {
		p := right()
		p.Arity, p.Names = spare(p.Arity, 99), spare(p.Names, "Spare")
		r := &p.Rules[0]
		r.Terms = spare(r.Terms, v(-7))
		r.Body[0].Terms = spare(r.Body[0].Terms, v(-7))
		r.Body = spare(r.Body, test(99))
		p.Rules = spare(p.Rules, api.Rule{Vars: -1})
		return p, api.Fact{Args: spare(list(1, 2), api.MaxNumber+1)}
	}
	all := func(p api.Program, f api.Fact) []any {
		r := p.Rules[0]
		return []any{p.Arity[:4], p.Names[:4], p.Rules[:4], r.Terms[:3], r.Body[:5], r.Body[0].Terms[:2], f.Args[:3]}
	}
	p, f := room()
	if e, g := Check(p), Fact(p, f); e != api.OK || g != api.OK {
		t.Errorf("Check is %d, Fact %d", e, g)
	}
	if !reflect.DeepEqual(all(p, f), all(room())) {
		t.Errorf("what is left is %v", all(p, f))
	}
}

// P3: the same each time, whatever was asked between.
func TestCheckSameEachTime(t *testing.T) {
	for range 3 {
		for i, s := range spoils() {
			p := right()
			s.do(&p)
			if e, f := Check(p), Fact(p, api.Fact{}); e != s.want || f != s.want {
				t.Errorf("spoil %d: Check is %d, Fact %d, want %d", i, e, f, s.want)
			}
		}
	}
}
