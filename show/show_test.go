package show

import (
	"reflect"
	"slices"
	"strings"
	"testing"

	"groundwork/api"
	"groundwork/tree"
)

// draw numbers for trees that are put together at random; the same each time.
type draw uint64

func (d *draw) n(n int) int {
	*d = *d*6364136223846793005 + 1442695040888963407
	return int(uint64(*d) >> 33 % uint64(n))
}

func pick[T any](d *draw, l []T) T { return l[d.n(len(l))] }

func v(s string) api.TreeTerm { return api.TreeTerm{Var: s} }
func n(n int) api.TreeTerm    { return api.TreeTerm{N: n} }

func terms(l ...api.TreeTerm) []api.TreeTerm { return l }

func lit(kind, op int, name string, l ...api.TreeTerm) api.TreeLit {
	return api.TreeLit{Kind: kind, At: 9, Op: op, Name: name, Terms: l}
}

func body(l ...api.TreeLit) []api.TreeLit { return l }

// C1: the texts of ordinary rules.
func TestShow(t *testing.T) {
	x, y := v("X"), v("Yy0")
	b := body(lit(api.LitYes, 0, "b", x))
	for _, c := range []struct {
		rules []api.TreeRule
		want  string
	}{
		{nil, ""},
		{[]api.TreeRule{}, ""},
		{[]api.TreeRule{{Name: "a"}}, "a().\n"},
		{[]api.TreeRule{{At: 7, Name: "a", Terms: []api.TreeTerm{}, Body: []api.TreeLit{}}}, "a().\n"},
		{[]api.TreeRule{{Name: "a", Terms: terms(x)}}, "a(X).\n"},
		{[]api.TreeRule{{Name: "a", Terms: terms(n(0), n(7), n(-7))}}, "a(0, 7, -7).\n"},
		{[]api.TreeRule{{Name: "a", Terms: terms(n(9999999), n(-9999999), y)}}, "a(9999999, -9999999, Yy0).\n"},
		{[]api.TreeRule{{Name: "a"}, {Name: "b", Terms: terms(n(1))}, {Name: "a"}}, "a().\nb(1).\na().\n"},
		{[]api.TreeRule{{Name: "a", Terms: terms(x), Body: b}}, "a(X) :- b(X).\n"},
		{[]api.TreeRule{{Name: "a", Terms: terms(x), Fold: api.FoldCount, Body: b}}, "a(count X) :- b(X).\n"},
		{[]api.TreeRule{{Name: "a", Terms: terms(y, x), Fold: api.FoldSum, Body: b}}, "a(Yy0, sum X) :- b(X).\n"},
		{[]api.TreeRule{{Name: "a", Terms: terms(x, y, n(-3)), Fold: api.FoldLeast, Body: b}}, "a(X, Yy0, least -3) :- b(X).\n"},
		{[]api.TreeRule{{Name: "a", Terms: terms(n(0)), Fold: api.FoldMost, Body: b}}, "a(most 0) :- b(X).\n"},
		{[]api.TreeRule{{Name: "a", Body: body(lit(api.LitYes, 0, "b"), lit(api.LitNot, 0, "c"), lit(api.LitYes, 0, "b", x, y, n(-1)), lit(api.LitNot, 0, "c", n(-2), x))}}, "a() :- b(), not c(), b(X, Yy0, -1), not c(-2, X).\n"},
		{[]api.TreeRule{{Name: "a", Body: body(lit(api.LitTest, api.OpLess, "", x, y), lit(api.LitTest, api.OpMost, "", n(-1), x), lit(api.LitTest, api.OpSame, "", x, n(-1)), lit(api.LitTest, api.OpOther, "", n(0), n(1)))}}, "a() :- X < Yy0, -1 <= X, X = -1, 0 != 1.\n"},
		{[]api.TreeRule{{Name: "a", Body: body(lit(api.LitCalc, api.OpAdd, "", x, y, n(3)), lit(api.LitCalc, api.OpSub, "", n(-1), n(-2), n(-3)), lit(api.LitCalc, api.OpMul, "", n(2), x, x))}}, "a() :- X + Yy0 = 3, -1 - -2 = -3, 2 * X = X.\n"},
	} {
		if s, e := Show(api.Tree{Rules: c.rules}); s != c.want || e != api.OK {
			t.Errorf("Show(%v) = %q %d, want %q", c.rules, s, e, c.want)
		}
	}
}

// C1: wrong trees, and the limits: MaxRules, MaxBody, MaxArity, and one beyond each; too many of something comes ahead of a wrong form.
func TestShowErrors(t *testing.T) {
	yes := lit(api.LitYes, 0, "b")
	for i, c := range []struct {
		rules []api.TreeRule
		want  api.Errno
	}{
		{[]api.TreeRule{{}}, api.ErrForm},
		{[]api.TreeRule{{Name: "a"}, {Name: "not"}}, api.ErrForm},
		{[]api.TreeRule{{Name: "A"}}, api.ErrForm},
		{[]api.TreeRule{{Name: "a", Terms: terms(v("x"))}}, api.ErrForm},
		{[]api.TreeRule{{Name: "a", Terms: terms(api.TreeTerm{Var: "X", N: 1})}}, api.ErrForm},
		{[]api.TreeRule{{Name: "a", Terms: terms(n(10000000))}}, api.ErrForm},
		{[]api.TreeRule{{Name: "a", Terms: terms(n(-10000000))}}, api.ErrForm},
		{[]api.TreeRule{{Name: "a", Terms: terms(n(1)), Fold: api.FoldSum}}, api.ErrForm},
		{[]api.TreeRule{{Name: "a", Fold: api.FoldSum, Body: body(yes)}}, api.ErrForm},
		{[]api.TreeRule{{Name: "a", Terms: terms(n(1)), Fold: api.FoldMost + 1, Body: body(yes)}}, api.ErrForm},
		{[]api.TreeRule{{Name: "a", Body: body(yes, api.TreeLit{})}}, api.ErrForm},
		{[]api.TreeRule{{Name: "a", Body: body(lit(api.LitTest, api.OpLess, ""))}}, api.ErrForm},
		{[]api.TreeRule{{Name: "a", Body: body(lit(api.LitCalc, api.OpLess, "", n(1), n(1), n(1)))}}, api.ErrForm},
		{[]api.TreeRule{{Name: "a", Body: body(lit(api.LitCalc, api.OpMul+1, "", n(1), n(1), n(1)))}}, api.ErrForm},
		{slices.Repeat([]api.TreeRule{{Name: "a"}}, api.MaxRules), api.OK},
		{slices.Repeat([]api.TreeRule{{Name: "a"}}, api.MaxRules+1), api.ErrMany},
		{[]api.TreeRule{{Name: "a", Body: slices.Repeat(body(yes), api.MaxBody)}}, api.OK},
		{[]api.TreeRule{{Name: "a", Body: slices.Repeat(body(yes), api.MaxBody+1)}}, api.ErrMany},
		{[]api.TreeRule{{Name: "a", Terms: make([]api.TreeTerm, api.MaxArity)}}, api.OK},
		{[]api.TreeRule{{Name: "a", Terms: make([]api.TreeTerm, api.MaxArity+1)}}, api.ErrMany},
		{[]api.TreeRule{{Name: "a", Body: body(lit(api.LitNot, 0, "b", make([]api.TreeTerm, api.MaxArity+1)...))}}, api.ErrMany},
		{[]api.TreeRule{{Name: "not"}, {Name: "a", Terms: make([]api.TreeTerm, api.MaxArity+1)}}, api.ErrMany},
	} {
		s, e := Show(api.Tree{Rules: c.rules})
		if e != c.want || (s == "") != (e != api.OK) {
			t.Errorf("tree %d: Show is %q %d, want %d", i, s, e, c.want)
		}
	}
}

// tree at random: most of its parts are right.
func (d *draw) tree() api.Tree {
	var t api.Tree
	for range d.n(4) {
		r := api.TreeRule{At: d.n(3), Name: d.name(), Terms: d.terms(d.n(api.MaxArity + 1))}
		for range d.n(api.MaxBody + 1) {
			r.Body = append(r.Body, d.lit())
		}
		if d.n(3) == 0 {
			r.Fold = d.n(api.FoldMost+2) - d.n(2)
		}
		t.Rules = append(t.Rules, r)
	}
	return t
}

func (d *draw) name() string {
	if d.n(60) == 0 {
		return pick(d, []string{"", "not", "X", "a b"})
	}
	return pick(d, []string{"a", "b", "nota", "abcdefghijkl"})
}

func (d *draw) terms(many int) []api.TreeTerm {
	var l []api.TreeTerm
	for range many {
		l = append(l, pick(d, terms(v("X"), v("Yy0"), v("Count"), n(0), n(7), n(-7), n(9999999), n(-9999999))))
	}
	return l
}

func (d *draw) lit() api.TreeLit {
	l := api.TreeLit{Kind: d.n(4) + 1, At: d.n(3)}
	switch l.Kind {
	case api.LitTest:
		l.Op, l.Terms = d.n(4)+api.OpLess, d.terms(2)
	case api.LitCalc:
		l.Op, l.Terms = d.n(3)+api.OpAdd, d.terms(3)
	default:
		l.Name, l.Terms = d.name(), d.terms(d.n(api.MaxArity+1))
	}
	if d.n(60) == 0 {
		l.Kind, l.Op = d.n(7)-1, d.n(10)-1
	}
	return l
}

// plain: a copy of a tree whose empty lists are nil, and whose At are 0.
func plain(t api.Tree) api.Tree {
	u := api.Tree{Rules: append([]api.TreeRule(nil), t.Rules...)}
	for i := range u.Rules {
		r := &u.Rules[i]
		r.At = 0
		r.Terms = append([]api.TreeTerm(nil), r.Terms...)
		r.Body = append([]api.TreeLit(nil), r.Body...)
		for j := range r.Body {
			r.Body[j].At = 0
			r.Body[j].Terms = append([]api.TreeTerm(nil), r.Body[j].Terms...)
		}
	}
	return u
}

// alike: are trees the same, but for At? (What Same must answer.)
func alike(t, u api.Tree) bool { return reflect.DeepEqual(plain(t), plain(u)) }

// C1, C3, P1: of any tree: what is shown is parsed to the same tree, and shown again as the same text; else the error is that of Check.
func TestShownIsParsed(t *testing.T) {
	d := draw(1)
	right, wrong := 0, 0
	for range 20000 {
		u := d.tree()
		s, e := Show(u)
		if want := tree.Check(u); e != want {
			t.Fatalf("Show(%v) = %d, and Check %d", u, e, want)
		}
		if e != api.OK {
			wrong++
			if s != "" {
				t.Fatalf("Show(%v) has an error, and a text: %q", u, s)
			}
			continue
		}
		right++
		w, at, f := tree.Parse(s)
		if at != 0 || f != api.OK || !alike(u, w) || !Same(u, w) || !Same(w, u) {
			t.Fatalf("%v is shown as %q, and that is parsed to %v %d %d", u, s, w, at, f)
		}
		if again, e := Show(w); again != s || e != api.OK {
			t.Fatalf("%q is shown again as %q %d", s, again, e)
		}
	}
	if right < 5000 || wrong < 5000 {
		t.Errorf("%d trees were right, %d wrong", right, wrong)
	}
}

// C3: what is parsed is shown as a text with the same tree, however it was written.
func TestParsedIsShown(t *testing.T) {
	for _, c := range [][2]string{
		{"", ""},
		{" % nothing\n", ""},
		{"a().", "a().\n"},
		{"\ta ( X,1 ,- 3 )\n. % note", "a(X, 1, -3).\n"},
		{"a(X):-b(X),not c(X),X<1.d(-1).", "a(X) :- b(X), not c(X), X < 1.\nd(-1).\n"},
		{"a(least X):-b(X),X--1=Y,Y!=-2.", "a(least X) :- b(X), X - -1 = Y, Y != -2.\n"},
	} {
		u, _, e := tree.Parse(c[0])
		if e != api.OK {
			t.Fatalf("Parse(%q) = %d", c[0], e)
		}
		s, e := Show(u)
		if s != c[1] || e != api.OK {
			t.Errorf("%q is shown as %q %d, want %q", c[0], s, e, c[1])
		}
		if w, _, _ := tree.Parse(s); !Same(u, w) {
			t.Errorf("%q is shown as %q, and that has another tree", c[0], s)
		}
	}
}

// C3: a tree as great as it may be.
func TestShowGreatest(t *testing.T) {
	name := strings.Repeat("a", api.MaxName)
	l := slices.Repeat(terms(v(strings.Repeat("A", api.MaxName))), api.MaxArity)
	r := api.TreeRule{Name: name, Terms: l, Fold: api.FoldLeast, Body: slices.Repeat(body(lit(api.LitNot, 0, name, l...)), api.MaxBody)}
	u := api.Tree{Rules: slices.Repeat([]api.TreeRule{r}, api.MaxRules)}
	s, e := Show(u)
	if w, at, f := tree.Parse(s); e != api.OK || f != api.OK || at != 0 || !alike(u, w) {
		t.Errorf("the greatest tree is shown in %d bytes (%d), and parsed %d %d", len(s), e, at, f)
	}
}

// full: a tree that has all there is, in new memory.
func full() api.Tree {
	u, _, _ := tree.Parse("a(X, count Y) :- b(X, 1), not c(Y), X < 2, X + Y = 3. d().")
	return u
}

// C2: each field but At counts, whatever the trees are; an empty list is one, nil or not.
func TestSame(t *testing.T) {
	for i, c := range []struct {
		do   func(t *api.Tree)
		want bool
	}{
		{func(t *api.Tree) {}, true},
		{func(t *api.Tree) { t.Rules[0].At = 99 }, true},
		{func(t *api.Tree) { t.Rules[1].At = -1 }, true},
		{func(t *api.Tree) { t.Rules[0].Body[3].At = 99 }, true},
		{func(t *api.Tree) { t.Rules[1].Terms, t.Rules[1].Body = []api.TreeTerm{}, []api.TreeLit{} }, true},
		{func(t *api.Tree) { t.Rules[1].Terms, t.Rules[1].Body = nil, nil }, true},
		{func(t *api.Tree) { t.Rules = nil }, false},
		{func(t *api.Tree) { t.Rules = t.Rules[:1] }, false},
		{func(t *api.Tree) { t.Rules = t.Rules[1:] }, false},
		{func(t *api.Tree) { t.Rules = append(t.Rules, api.TreeRule{}) }, false},
		{func(t *api.Tree) { slices.Reverse(t.Rules) }, false},
		{func(t *api.Tree) { t.Rules[1].Name = "a" }, false},
		{func(t *api.Tree) { t.Rules[1].Fold = -1 }, false},
		{func(t *api.Tree) { t.Rules[0].Fold = api.FoldSum }, false},
		{func(t *api.Tree) { t.Rules[0].Terms = t.Rules[0].Terms[:1] }, false},
		{func(t *api.Tree) { t.Rules[0].Terms[0].Var = "Y" }, false},
		{func(t *api.Tree) { t.Rules[0].Terms[1].N = 1 }, false},
		{func(t *api.Tree) { slices.Reverse(t.Rules[0].Terms) }, false},
		{func(t *api.Tree) { t.Rules[1].Terms = terms(n(0)) }, false},
		{func(t *api.Tree) { t.Rules[0].Body = t.Rules[0].Body[:3] }, false},
		{func(t *api.Tree) { t.Rules[1].Body = t.Rules[0].Body[:1] }, false},
		{func(t *api.Tree) { slices.Reverse(t.Rules[0].Body) }, false},
		{func(t *api.Tree) { t.Rules[0].Body[0].Kind = api.LitNot }, false},
		{func(t *api.Tree) { t.Rules[0].Body[0].Op = 1 }, false},
		{func(t *api.Tree) { t.Rules[0].Body[2].Op = api.OpMost }, false},
		{func(t *api.Tree) { t.Rules[0].Body[1].Name = "b" }, false},
		{func(t *api.Tree) { t.Rules[0].Body[2].Name = "b" }, false},
		{func(t *api.Tree) { t.Rules[0].Body[1].Terms = nil }, false},
		{func(t *api.Tree) { t.Rules[0].Body[0].Terms[0].Var = "Z" }, false},
		{func(t *api.Tree) { t.Rules[0].Body[0].Terms[1].N = -1 }, false},
		{func(t *api.Tree) { t.Rules[0].Body[3].Terms[2].N = 4 }, false},
	} {
		u := full()
		c.do(&u)
		if got, back := Same(full(), u), Same(u, full()); got != c.want || back != c.want {
			t.Errorf("change %d: Same is %v, and the other way round %v", i, got, back)
		}
		if !Same(u, u) {
			t.Errorf("change %d: not the same as itself", i)
		}
	}
	if !Same(api.Tree{}, api.Tree{Rules: []api.TreeRule{}}) {
		t.Errorf("empty trees are not the same")
	}
}

// C2: of trees at random, right or wrong, small enough to be the same now and then.
func TestSameAtRandom(t *testing.T) {
	d := draw(2)
	same := 0
	for range 20000 {
		u, w := d.tree(), d.tree()
		if d.n(2) == 0 {
			w = plain(u)
			if d.n(2) == 0 && len(w.Rules) > 0 {
				w.Rules[d.n(len(w.Rules))] = api.TreeRule{Name: d.name()}
			}
		}
		want := alike(u, w)
		if want {
			same++
		}
		if got := Same(u, w); got != want {
			t.Fatalf("Same(%v, %v) = %v", u, w, got)
		}
	}
	if same < 2000 || same > 18000 {
		t.Errorf("%d trees were the same", same)
	}
}

// P2: Show and Same only read, the spare room of lists too.
func TestOnlyReads(t *testing.T) {
	room := func() api.Tree {
		l := make([]api.TreeTerm, 1, 5)
		copy(l[:5], terms(v("X"), v("spare"), n(7), n(8), n(9)))
		b := make([]api.TreeLit, 1, 3)
		copy(b[:3], body(lit(api.LitYes, 0, "b", l...), lit(api.LitYes, 0, "spare"), lit(99, 0, "")))
		rules := make([]api.TreeRule, 1, 2)
		copy(rules[:2], []api.TreeRule{{Name: "a", Terms: l, Body: b}, {Name: "Spare"}})
		return api.Tree{Rules: rules}
	}
	all := func(u api.Tree) []any {
		r := u.Rules[0]
		return []any{u.Rules[:2], r.Terms[:5], r.Body[:3]}
	}
	u, w := room(), room()
	if s, e := Show(u); s != "a(X) :- b(X).\n" || e != api.OK {
		t.Errorf("Show is %q %d", s, e)
	}
	w.Rules[:2][1].Name = "other"
	if !Same(u, w) {
		t.Errorf("Same looks at the spare room")
	}
	w.Rules[:2][1].Name = "Spare"
	if !reflect.DeepEqual(all(u), all(room())) || !reflect.DeepEqual(all(w), all(room())) {
		t.Errorf("what is left is %v, %v", all(u), all(w))
	}
}

// P3: the same each time, whatever was asked between.
func TestSameEachTime(t *testing.T) {
	d := draw(3)
	var trees []api.Tree
	var first []string
	for range 300 {
		u := d.tree()
		s, _ := Show(u)
		trees, first = append(trees, u), append(first, s)
	}
	for i := len(trees) - 1; i >= 0; i-- {
		if s, _ := Show(trees[i]); s != first[i] {
			t.Errorf("Show(%v) = %q, and was %q", trees[i], s, first[i])
		}
	}
}
