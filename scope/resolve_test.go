package scope

import (
	"fmt"
	"reflect"
	"slices"
	"strings"
	"testing"

	"groundwork/api"
	"groundwork/tree"
)

// plain: a copy of a program whose empty lists are nil.
func plain(p api.Program) api.Program {
	q := api.Program{
		Arity: append([]int(nil), p.Arity...),
		Names: append([]string(nil), p.Names...),
		Rules: append([]api.Rule(nil), p.Rules...),
	}
	for i := range q.Rules {
		r := &q.Rules[i]
		r.Terms = append([]api.Term(nil), r.Terms...)
		r.Body = append([]api.Lit(nil), r.Body...)
		for j := range r.Body {
			r.Body[j].Terms = append([]api.Term(nil), r.Body[j].Terms...)
		}
	}
	return q
}

// same: are programs? An empty list may be nil or not.
func same(p, q api.Program) bool { return reflect.DeepEqual(plain(p), plain(q)) }

func parsed(t *testing.T, s string) api.Tree {
	u, _, e := tree.Parse(s)
	if e != api.OK {
		t.Fatalf("Parse(%q) = %d", s, e)
	}
	return u
}

// D2: the programs of ordinary texts.
func TestResolve(t *testing.T) {
	for _, c := range []struct {
		text string
		want api.Program
	}{
		{"", api.Program{}},
		{"a().", api.Program{Arity: list(0), Names: list("a"), Rules: []api.Rule{{}}}},
		{"a(1, -2). a(0, 7).", api.Program{Arity: list(2), Names: list("a"), Rules: []api.Rule{{Terms: list(n(1), n(-2))}, {Terms: list(n(0), n(7))}}}},
		{"a(Y, X) :- b(X, Y).", api.Program{Arity: list(2, 2), Names: list("a", "b"), Rules: []api.Rule{{Terms: list(v(0), v(1)), Body: list(yes(1, v(1), v(0))), Vars: 2}}}},
		{"a() :- b(Z), c(X, Z, Y). c(1, 2, 3) :- a().", api.Program{Arity: list(0, 1, 3), Names: list("a", "b", "c"), Rules: []api.Rule{
			{Body: list(yes(1, v(0)), yes(2, v(1), v(0), v(2))), Vars: 3},
			{Pred: 2, Terms: list(n(1), n(2), n(3)), Body: list(yes(0))},
		}}},
		{"b(X) :- c(X), not d(X). a(Z) :- b(Z), not e().", api.Program{Arity: list(1, 1, 1, 1, 0), Names: list("b", "c", "d", "a", "e"), Rules: []api.Rule{
			{Terms: list(v(0)), Body: list(yes(1, v(0)), no(2, v(0))), Vars: 1},
			{Pred: 3, Terms: list(v(0)), Body: list(yes(0, v(0)), no(4)), Vars: 1},
		}}},
		{"a(X, most N) :- X * 2 = N, b(X), N != -4, 3 - 5 = N.", api.Program{Arity: list(2, 1), Names: list("a", "b"), Rules: []api.Rule{
			{Terms: list(v(0), v(1)), Fold: api.FoldMost, Body: list(calc(api.OpMul, v(0), n(2), v(1)), yes(1, v(0)), test(api.OpOther, v(1), n(-4)), calc(api.OpSub, n(3), n(5), v(1))), Vars: 2},
		}}},
		{"a(count 3) :- a(X), X + X = Y, Y <= X.", api.Program{Arity: list(1), Names: list("a"), Rules: []api.Rule{
			{Terms: list(n(3)), Fold: api.FoldCount, Body: list(yes(0, v(0)), calc(api.OpAdd, v(0), v(0), v(1)), test(api.OpMost, v(1), v(0))), Vars: 2},
		}}},
	} {
		p, at, e := Resolve(parsed(t, c.text))
		if !same(p, c.want) || at != 0 || e != api.OK {
			t.Errorf("Resolve of %q = %v %d %d, want %v", c.text, p, at, e, c.want)
		}
		if f := Check(p); f != api.OK {
			t.Errorf("what is resolved of %q does not pass Check: %d", c.text, f)
		}
		if q, at, e := Program(c.text); !same(q, c.want) || at != 0 || e != api.OK {
			t.Errorf("Program(%q) = %v %d %d, want %v", c.text, q, at, e, c.want)
		}
	}
}

// D2: what is wrong in a text, and where: ^ tells the place, and is left out.
func TestResolveErrors(t *testing.T) {
	for _, c := range []struct {
		text string
		want api.Errno
	}{
		// Not as many terms as first.
		{"a(1). ^a(1, 2).", api.ErrForm},
		{"a(1). ^a().", api.ErrForm},
		{"a(). a(). ^a(1).", api.ErrForm},
		{"a(1, 2). ^a(1). a(1, 2).", api.ErrForm},
		{"a(X) :- ^a(X, X).", api.ErrForm},
		{"a(1) :- b(1), ^not b().", api.ErrForm}, // the place is where the literal begins
		{"a() :- not b(1), ^b().", api.ErrForm},
		{"a() :- b(1). c() :- d(), ^b(1, 2).", api.ErrForm},
		{"a() :- b(1). ^b(1, 2) :- b(1).", api.ErrForm},
		{"a() :- b(1). \n\t^b(1, 2) :- b(), a(1).", api.ErrForm},
		// Numbers.
		{"^a(1000001).", api.ErrRange},
		{"^a(-1000001).", api.ErrRange},
		{"a(1000000). ^a(9999999).", api.ErrRange},
		{"a(X) :- b(X), ^c(X, 1, 1000001), d(1000001).", api.ErrRange},
		{"a(X) :- b(X), ^not c(X, -9999999).", api.ErrRange},
		{"a(X) :- b(X), ^X < 1000001.", api.ErrRange},
		{"a(X) :- b(X), ^- 1000001 = X.", api.ErrRange},
		{"a(X) :- b(X), ^X + 1000001 = X.", api.ErrRange},
		{"a(X) :- b(X), ^1 * 1 = -1000001.", api.ErrRange},
		{"^a(count 1000001) :- b(1000001).", api.ErrRange},
		// The first thing; of one thing, ErrForm first.
		{"a(1). ^a(1, 1000001).", api.ErrForm},
		{"^a(1000001). a(1, 2).", api.ErrRange},
		{"a(1). ^a(1, 2). a(1000001).", api.ErrForm},
		{"a(1) :- ^a(1000001), a().", api.ErrRange},
		{"a(1) :- ^a(), a(1000001).", api.ErrForm},
		{"^a(1000001) :- a().", api.ErrRange},
		{"a() :- b(1), ^b(1000001, 2), b(1000001).", api.ErrForm},
		// Those ahead of what Check (D1) says.
		{"a(X). ^a(X, Y).", api.ErrForm},
		{"a(X) :- ^not a(1000001).", api.ErrRange},
		{"a(). b(). c(). d(). e(). f(). g(). h(). i(). j(). k(). ^a(1).", api.ErrForm},
		{"a(). b(). c(). d(). e(). f(). g(). h(). i(). j(). k(). ^l(1000001).", api.ErrRange},
		{"a(A, B, C) :- p(A, B, C), q(D, E, F), r(G, H, I), ^r(1, 1).", api.ErrForm},
		// At 0: what Check (D1) says.
		{"^ a(X).", api.ErrState},
		{"^ a(1). a(X) :- not a(X).", api.ErrState},
		{"^ a(1). a(X) :- b(Y), Y = X.", api.ErrState},
		{"^ a(1). a(X) :- X + 1 = X.", api.ErrState},
		{"^ a(1). a(X) :- a(X), not b(Y).", api.ErrState},
		{"^ a(A, B, C) :- p(A, B, C), q(D, E, F), r(G, H, I).", api.ErrRange},
		{"^ a(A, B, C) :- p(A, B, C), q(D, E, F), not r(G, H, I).", api.ErrRange},
		{"^ a(). b(). c(). d(). e(). f(). g(). h(). i(). j(). k(X).", api.ErrMany},
	} {
		at := strings.Index(c.text, "^")
		s := strings.Replace(c.text, "^", "", 1)
		p, got, e := Program(s)
		if !same(p, api.Program{}) || got != at || e != c.want {
			t.Errorf("Program(%q) = %v %d %d, want nothing, %d %d", s, p, got, e, at, c.want)
		}
		if p, got, e := Resolve(parsed(t, s)); !same(p, api.Program{}) || got != at || e != c.want {
			t.Errorf("Resolve of %q = %v %d %d, want nothing, %d %d", s, p, got, e, at, c.want)
		}
	}
}

// D2: places are what At says, and a wrong tree comes first of all, at 0.
func TestResolveTrees(t *testing.T) {
	x := []api.TreeTerm{{Var: "X"}}
	far := []api.TreeTerm{{N: -api.MaxNumber - 1}}
	b := func(at int, l []api.TreeTerm) []api.TreeLit {
		return []api.TreeLit{{Kind: api.LitYes, At: at, Name: "b", Terms: l}}
	}
	for i, c := range []struct {
		rules []api.TreeRule
		at    int
		want  api.Errno
	}{
		{[]api.TreeRule{{At: 9, Name: "a"}, {At: 7, Name: "a", Terms: x}}, 7, api.ErrForm},
		{[]api.TreeRule{{At: 9, Name: "a"}, {At: -7, Name: "a", Terms: far}}, -7, api.ErrForm},
		{[]api.TreeRule{{At: 9, Name: "a", Terms: far}, {At: 7, Name: "a"}}, 9, api.ErrRange},
		{[]api.TreeRule{{At: 9, Name: "a", Body: b(1<<62, far)}}, 1 << 62, api.ErrRange},
		{[]api.TreeRule{{At: 9, Name: "b", Body: b(3, x)}}, 3, api.ErrForm},
		{[]api.TreeRule{{At: 9, Name: "a", Terms: x}}, 0, api.ErrState},
		{[]api.TreeRule{{At: 9, Name: "not"}}, 0, api.ErrState},
		{[]api.TreeRule{{At: 9, Name: "a"}, {At: 7, Name: "a", Terms: x}, {At: 5, Name: "A"}}, 0, api.ErrState},
		{[]api.TreeRule{{At: 9, Name: "a", Terms: far}, {At: 5, Fold: 9, Name: "a"}}, 0, api.ErrState},
		{[]api.TreeRule{{At: 9, Name: "a", Terms: []api.TreeTerm{{N: 10000000}}}}, 0, api.ErrState},
		{[]api.TreeRule{{At: 9, Name: "a", Terms: []api.TreeTerm{{Var: "X", N: 1}}, Body: b(3, x)}}, 0, api.ErrState},
		{[]api.TreeRule{{At: 9, Name: "a", Body: []api.TreeLit{{At: 3}}}}, 0, api.ErrState},
		{[]api.TreeRule{{At: 9, Name: "a", Terms: make([]api.TreeTerm, api.MaxArity+1)}}, 0, api.ErrState},
		{[]api.TreeRule{{At: 9, Name: "a", Body: slices.Repeat(b(3, far), api.MaxBody+1)}}, 0, api.ErrState},
		{slices.Repeat([]api.TreeRule{{At: 9, Name: "a", Terms: far}}, api.MaxRules+1), 0, api.ErrState},
	} {
		p, at, e := Resolve(api.Tree{Rules: c.rules})
		if !same(p, api.Program{}) || at != c.at || e != c.want {
			t.Errorf("tree %d: Resolve is %v %d %d, want nothing, %d %d", i, p, at, e, c.at, c.want)
		}
	}
}

// D2: Program tells what Parse does.
func TestProgramErrorsOfParse(t *testing.T) {
	for _, s := range []string{"a", "a(", "a(?).", "a(01).", "a(12345678).", "a(X). a(1, 2) b", "a(1). a(1, 2). ?", "not().", "a(count X).", "a(1000001, 2, 3, 4).", strings.Repeat(" ", api.MaxText+1), strings.Repeat("a().", api.MaxRules+1), "a() :- b(), b(), b(), b(), b()."} {
		_, to, f := tree.Parse(s)
		p, at, e := Program(s)
		if !same(p, api.Program{}) || at != to || e != f || e == api.OK {
			t.Errorf("Program(%.40q) = %v %d %d, and Parse %d %d", s, p, at, e, to, f)
		}
	}
}

// D2: MaxPreds, MaxRules, MaxArity, MaxVars, MaxBody, MaxNumber, and one beyond each: of a text, and of its tree.
func TestProgramLimits(t *testing.T) {
	many := func(f func(i int) string, between string) func(int) string {
		return func(k int) string {
			var l []string
			for i := range k {
				l = append(l, f(i))
			}
			return strings.Join(l, between)
		}
	}
	within := func(ahead string, f func(int) string, behind string) func(int) string {
		return func(k int) string { return ahead + f(k) + behind }
	}
	for i, c := range []struct {
		made func(k int) string
		most int
		want api.Errno
	}{
		{many(func(i int) string { return fmt.Sprintf("p%d().", i) }, "\n"), api.MaxPreds, api.ErrMany},
		{many(func(i int) string { return "a()." }, "\n"), api.MaxRules, api.ErrMany},
		{within("a(", many(func(i int) string { return "1" }, ", "), ")."), api.MaxArity, api.ErrMany},
		{within("a() :- b(A, B, C), b(D, E, F), b(", func(k int) string { return "Q, R, " + []string{"R", "S"}[k-api.MaxVars] }, ")."), api.MaxVars, api.ErrRange},
		{within("a() :- ", many(func(i int) string { return "b()" }, ", "), "."), api.MaxBody, api.ErrMany},
		{within("a(", func(k int) string { return fmt.Sprint(k) }, ")."), api.MaxNumber, api.ErrRange},
		{within("a(-", func(k int) string { return fmt.Sprint(k) }, ")."), api.MaxNumber, api.ErrRange},
	} {
		if p, at, e := Program(c.made(c.most)); len(p.Rules) == 0 || at != 0 || e != api.OK {
			t.Errorf("limit %d: Program(%q) = %v %d %d", i, c.made(c.most), p, at, e)
		}
		if p, at, e := Program(c.made(c.most + 1)); !same(p, api.Program{}) || at != 0 || e != c.want {
			t.Errorf("limit %d: Program(%q) = %v %d %d, want %d", i, c.made(c.most+1), p, at, e, c.want)
		}
	}
}

// tree at random, right but for its names and numbers.
func (d *draw) tree() api.Tree {
	var t api.Tree
	for range d.n(4) {
		r := api.TreeRule{At: d.n(99), Name: d.name(), Terms: d.terms(d.n(3))}
		for range d.n(api.MaxBody + 1) {
			l := api.TreeLit{Kind: pick(d, list(api.LitYes, api.LitYes, api.LitNot, api.LitTest, api.LitCalc)), At: d.n(99)}
			switch l.Kind {
			case api.LitTest:
				l.Op, l.Terms = d.n(4)+api.OpLess, d.terms(2)
			case api.LitCalc:
				l.Op, l.Terms = d.n(3)+api.OpAdd, d.terms(3)
			default:
				l.Name = d.name()
				l.Terms = d.terms(int(l.Name[0]-'a') % 3)
			}
			r.Body = append(r.Body, l)
		}
		if len(r.Terms) > 0 && len(r.Body) > 0 {
			r.Fold = d.n(2) * d.n(api.FoldMost+1)
		}
		t.Rules = append(t.Rules, r)
	}
	return t
}

func (d *draw) name() string { return pick(d, list("a", "b", "c", "d", "e", "b0")) }

func (d *draw) terms(many int) []api.TreeTerm {
	var l []api.TreeTerm
	for range many {
		x := api.TreeTerm{Var: pick(d, list("X", "Y", "Z"))}
		if d.n(4) == 0 {
			x = api.TreeTerm{N: d.n(19) - 9}
		}
		if d.n(60) == 0 {
			x = api.TreeTerm{N: pick(d, list(1, -1)) * (api.MaxNumber + d.n(2))}
		}
		l = append(l, x)
	}
	return l
}

// thing of a tree: a head, or a literal, and what it was resolved to.
type thing struct {
	at, rule int
	name     string
	from     []api.TreeTerm
	pred     int
	to       []api.Term
}

// things of a tree in the order of its text; with the program, if there is one.
func things(u api.Tree, p api.Program) []thing {
	var l []thing
	for i, r := range u.Rules {
		x := thing{at: r.At, rule: i, name: r.Name, from: r.Terms}
		if i < len(p.Rules) {
			x.pred, x.to = p.Rules[i].Pred, p.Rules[i].Terms
		}
		l = append(l, x)
		for j, b := range r.Body {
			x := thing{at: b.At, rule: i, name: b.Name, from: b.Terms}
			if i < len(p.Rules) && j < len(p.Rules[i].Body) {
				x.pred, x.to = p.Rules[i].Body[j].Pred, p.Rules[i].Body[j].Terms
			}
			l = append(l, x)
		}
	}
	return l
}

// firstWrong thing of a tree: where it is, and why.
func firstWrong(u api.Tree) (int, api.Errno) {
	l := things(u, api.Program{})
	for i, x := range l {
		first := slices.IndexFunc(l, func(y thing) bool { return y.name == x.name })
		if x.name != "" && first < i && len(l[first].from) != len(x.from) {
			return x.at, api.ErrForm
		}
		for _, y := range x.from {
			if y.N > api.MaxNumber || y.N < -api.MaxNumber {
				return x.at, api.ErrRange
			}
		}
	}
	return 0, api.OK
}

// firsts: those of a list that are not ahead in it.
func firsts(l []string) []string {
	var out []string
	for _, s := range l {
		if !slices.Contains(out, s) {
			out = append(out, s)
		}
	}
	return out
}

// resolved: is a program that of a tree?
func resolved(u api.Tree, p api.Program) bool {
	l := things(u, p)
	var preds []string
	vars := make([][]string, len(u.Rules))
	for _, x := range l {
		if x.name != "" {
			preds = append(preds, x.name)
		}
		for _, y := range x.from {
			if y.Var != "" {
				vars[x.rule] = append(vars[x.rule], y.Var)
			}
		}
	}
	preds = firsts(preds)
	if len(p.Rules) != len(u.Rules) || !slices.Equal(p.Names, preds) || len(p.Arity) != len(preds) {
		return false
	}
	for i, r := range p.Rules {
		from := u.Rules[i]
		if r.Fold != from.Fold || len(r.Body) != len(from.Body) || r.Vars != len(firsts(vars[i])) {
			return false
		}
		for j, b := range r.Body {
			if b.Kind != from.Body[j].Kind || b.Op != from.Body[j].Op {
				return false
			}
		}
	}
	return !slices.ContainsFunc(l, func(x thing) bool {
		if x.name == "" && x.pred != 0 || x.name != "" && (preds[x.pred] != x.name || p.Arity[x.pred] != len(x.from)) {
			return true
		}
		return !slices.EqualFunc(x.from, x.to, func(y api.TreeTerm, z api.Term) bool {
			return z == api.Term{Var: slices.Index(firsts(vars[x.rule]), y.Var), N: y.N}
		})
	})
}

// D2, P1: of any tree: its first fault where it stands; else at 0 what Check says of its program; else that program.
func TestResolveAnyTree(t *testing.T) {
	d := draw(2)
	count := map[api.Errno]int{}
	for range 30000 {
		u := d.tree()
		if e := tree.Check(u); e != api.OK {
			t.Fatalf("Check(%v) = %d", u, e)
		}
		p, at, e := Resolve(u)
		count[e]++
		wantAt, want := firstWrong(u)
		switch {
		case want != api.OK:
			if at != wantAt || e != want || !same(p, api.Program{}) {
				t.Fatalf("Resolve(%v) = %v %d %d, want nothing, %d %d", u, p, at, e, wantAt, want)
			}
		case e == api.OK:
			if at != 0 || !resolved(u, p) || Check(p) != api.OK {
				t.Fatalf("Resolve(%v) = %v %d, Check %d", u, p, at, Check(p))
			}
		case at != 0 || e != api.ErrState || !same(p, api.Program{}):
			t.Fatalf("Resolve(%v) = %v %d %d", u, p, at, e)
		}
	}
	for _, e := range list(api.OK, api.ErrForm, api.ErrRange, api.ErrState) {
		if count[e] < 300 {
			t.Errorf("only %d trees had the answer %d", count[e], e)
		}
	}
}

// apart: do lists, their spare room too, keep what is written to each, when all have been written to?
func apart[T any](lists [][]T, made func(mark int) T, mark func(T) int) bool {
	for i, l := range lists {
		for j := range l[:cap(l)] {
			l[:cap(l)][j] = made(i)
		}
	}
	for i, l := range lists {
		if slices.ContainsFunc(l[:cap(l)], func(x T) bool { return mark(x) != i }) {
			return false
		}
	}
	return true
}

// P2: no two lists of what is resolved share memory, and none is kept.
func TestResolvedIsTheCallers(t *testing.T) {
	u := parsed(t, "a(X, Y, sum Z) :- b(X), b(Y), not c(Y, 1), X + Y = Z. d(1, 2). e() :- a(X, Y, Z), X < 3. d(3, 4).")
	p, _, e := Resolve(u)
	if e != api.OK {
		t.Fatalf("Resolve is %d", e)
	}
	was := plain(p)
	var terms [][]api.Term
	var bodies [][]api.Lit
	for _, r := range p.Rules {
		terms, bodies = append(terms, r.Terms), append(bodies, r.Body)
		for _, l := range r.Body {
			terms = append(terms, l.Terms)
		}
	}
	if !apart(terms, n, func(t api.Term) int { return t.N }) {
		t.Errorf("lists of terms share memory")
	}
	if !apart(bodies, func(i int) api.Lit { return yes(i) }, func(l api.Lit) int { return l.Pred }) {
		t.Errorf("lists of literals share memory")
	}
	clear(p.Rules[:cap(p.Rules)])
	clear(p.Arity[:cap(p.Arity)])
	clear(p.Names[:cap(p.Names)])
	if q, _, e := Resolve(u); !same(q, was) || e != api.OK {
		t.Errorf("Resolve sees what was done with an earlier answer: %v %d", q, e)
	}
}

// P2: Resolve only reads, the spare room of lists too, and its answer does not change with the tree.
func TestResolveOnlyReads(t *testing.T) {
	room := func() api.Tree {
		x := func() []api.TreeTerm { return spare([]api.TreeTerm{{Var: "X"}}, api.TreeTerm{Var: "spare", N: 7}) }
		b := spare([]api.TreeLit{{Kind: api.LitYes, At: 3, Name: "b", Terms: x()}}, api.TreeLit{Kind: 99})
		return api.Tree{Rules: spare([]api.TreeRule{{Name: "a", Terms: x(), Body: b}}, api.TreeRule{Name: "Spare"})}
	}
	all := func(u api.Tree) []any {
		r := u.Rules[0]
		return []any{u.Rules[:2], r.Terms[:2], r.Body[:2], r.Body[0].Terms[:2]}
	}
	u := room()
	p, _, e := Resolve(u)
	if e != api.OK || !reflect.DeepEqual(all(u), all(room())) {
		t.Errorf("Resolve is %d, and has left %v", e, all(u))
	}
	was := plain(p)
	u.Rules[0].Body[0].Terms[0] = api.TreeTerm{N: 5}
	u.Rules[0].Terms[0] = api.TreeTerm{N: 5}
	clear(u.Rules[0].Body)
	clear(u.Rules)
	if !same(p, was) {
		t.Errorf("what was resolved has become %v", p)
	}
}

// P3: the same each time, whatever was asked between.
func TestResolveSameEachTime(t *testing.T) {
	d := draw(3)
	type answer struct {
		program api.Program
		at      int
		err     api.Errno
	}
	var trees []api.Tree
	var first []answer
	for range 300 {
		u := d.tree()
		p, at, e := Resolve(u)
		trees, first = append(trees, u), append(first, answer{p, at, e})
	}
	for i := len(trees) - 1; i >= 0; i-- {
		p, at, e := Resolve(trees[i])
		if f := first[i]; !same(p, f.program) || at != f.at || e != f.err {
			t.Errorf("Resolve(%v) = %v %d %d, and was %v", trees[i], p, at, e, f)
		}
	}
}
