package tree

import (
	"reflect"
	"slices"
	"strconv"
	"strings"
	"testing"

	"groundwork/api"
	"groundwork/token"
)

// draw numbers for texts and trees that are put together at random; the same each time.
type draw uint64

func (d *draw) n(n int) int {
	*d = *d*6364136223846793005 + 1442695040888963407
	return int(uint64(*d) >> 33 % uint64(n))
}

func pick[T any](d *draw, l []T) T { return l[d.n(len(l))] }

func v(s string) api.TreeTerm { return api.TreeTerm{Var: s} }
func n(n int) api.TreeTerm    { return api.TreeTerm{N: n} }

func terms(l ...api.TreeTerm) []api.TreeTerm { return l }

func yes(at int, name string, l ...api.TreeTerm) api.TreeLit {
	return api.TreeLit{Kind: api.LitYes, At: at, Name: name, Terms: l}
}

func no(at int, name string, l ...api.TreeTerm) api.TreeLit {
	return api.TreeLit{Kind: api.LitNot, At: at, Name: name, Terms: l}
}

func test(at, op int, l ...api.TreeTerm) api.TreeLit {
	return api.TreeLit{Kind: api.LitTest, At: at, Op: op, Terms: l}
}

func calc(at, op int, l ...api.TreeTerm) api.TreeLit {
	return api.TreeLit{Kind: api.LitCalc, At: at, Op: op, Terms: l}
}

// same: are trees the same? An empty list may be nil or not.
func same(t, u api.Tree) bool { return reflect.DeepEqual(plain(t, false), plain(u, false)) }

// alike: are they, but for At?
func alike(t, u api.Tree) bool { return reflect.DeepEqual(plain(t, true), plain(u, true)) }

// plain: a copy of a tree whose empty lists are nil, and whose At are 0, if they do not count.
func plain(t api.Tree, noAt bool) api.Tree {
	u := api.Tree{Rules: append([]api.TreeRule(nil), t.Rules...)}
	for i := range u.Rules {
		r := &u.Rules[i]
		r.Terms = append([]api.TreeTerm(nil), r.Terms...)
		r.Body = append([]api.TreeLit(nil), r.Body...)
		for j := range r.Body {
			r.Body[j].Terms = append([]api.TreeTerm(nil), r.Body[j].Terms...)
			if noAt {
				r.Body[j].At = 0
			}
		}
		if noAt {
			r.At = 0
		}
	}
	return u
}

// B1: the trees of ordinary texts.
func TestParse(t *testing.T) {
	for _, c := range []struct {
		text string
		want []api.TreeRule
	}{
		{"", nil},
		{" % nothing", nil},
		{"a().", []api.TreeRule{{Name: "a"}}},
		{"\n a ( ) .", []api.TreeRule{{At: 2, Name: "a"}}},
		{"a(X, 7, -3).", []api.TreeRule{{Name: "a", Terms: terms(v("X"), n(7), n(-3))}}},
		{"a(0, - 9999999, 9999999).", []api.TreeRule{{Name: "a", Terms: terms(n(0), n(-9999999), n(9999999))}}},
		{"a(). a(X). % b\nb(1, 2).", []api.TreeRule{{Name: "a"}, {At: 5, Name: "a", Terms: terms(v("X"))}, {At: 15, Name: "b", Terms: terms(n(1), n(2))}}},
		{"notA(Count) :- sums(Not).", []api.TreeRule{{Name: "notA", Terms: terms(v("Count")), Body: []api.TreeLit{yes(15, "sums", v("Not"))}}}},
		{"a() :- b().", []api.TreeRule{{Name: "a", Body: []api.TreeLit{yes(7, "b")}}}},
		{"a() :- b(X), not c(X, -1), not d().", []api.TreeRule{{Name: "a", Body: []api.TreeLit{yes(7, "b", v("X")), no(13, "c", v("X"), n(-1)), no(27, "d")}}}},
		{"a(count X) :- b(X).", []api.TreeRule{{Name: "a", Terms: terms(v("X")), Fold: api.FoldCount, Body: []api.TreeLit{yes(14, "b", v("X"))}}}},
		{"a(X, sum 3) :- b(X).", []api.TreeRule{{Name: "a", Terms: terms(v("X"), n(3)), Fold: api.FoldSum, Body: []api.TreeLit{yes(15, "b", v("X"))}}}},
		{"a(1, X, least -3) :- b(X).", []api.TreeRule{{Name: "a", Terms: terms(n(1), v("X"), n(-3)), Fold: api.FoldLeast, Body: []api.TreeLit{yes(21, "b", v("X"))}}}},
		{"a(most X) :- b(X).", []api.TreeRule{{Name: "a", Terms: terms(v("X")), Fold: api.FoldMost, Body: []api.TreeLit{yes(13, "b", v("X"))}}}},
		{"a() :- X < 1, X <= Y, -1 = X, 2 != - 3.", []api.TreeRule{{Name: "a", Body: []api.TreeLit{test(7, api.OpLess, v("X"), n(1)), test(14, api.OpMost, v("X"), v("Y")), test(22, api.OpSame, n(-1), v("X")), test(30, api.OpOther, n(2), n(-3))}}}},
		{"a() :- X + 1 = Y, X - Y = 3, 2 * 3 = X.", []api.TreeRule{{Name: "a", Body: []api.TreeLit{calc(7, api.OpAdd, v("X"), n(1), v("Y")), calc(18, api.OpSub, v("X"), v("Y"), n(3)), calc(29, api.OpMul, n(2), n(3), v("X"))}}}},
		{"a() :- -1--2=-3,X-1=0.", []api.TreeRule{{Name: "a", Body: []api.TreeLit{calc(7, api.OpSub, n(-1), n(-2), n(-3)), calc(16, api.OpSub, v("X"), n(1), n(0))}}}},
	} {
		u, at, e := Parse(c.text)
		if !same(u, api.Tree{Rules: c.want}) || at != 0 || e != api.OK {
			t.Errorf("Parse(%q) = %v %d %d, want %v 0 0", c.text, u, at, e, c.want)
		}
		if e := Check(u); e != api.OK {
			t.Errorf("what is parsed of %q does not pass Check: %d", c.text, e)
		}
	}
}

// B2: what can't stand in a text, and where: ^ tells the place, and is left out.
func TestParseErrors(t *testing.T) {
	for _, text := range []string{
		"a^", "a ^", "a % more^", "a(^", "a(1^", "a(1,^", "a(-^", "a()^", "a() :-^", "a() :- b^", "a() :- b(^", "a() :- b()^", "a() :- b(),^", "a() :- not^", "a() :- X^", "a() :- X <^", "a() :- X < 1^", "a() :- X +^", "a() :- X + 1^", "a() :- X + 1 =^", "a() :- X + 1 = -^", "a(count^", "a(count X^", "a(count X)^",
		"^.", "^X().", "^1().", "^-", "^(a).", "^:- b().", "a^. ", "a().^.",
		"^not().", "^count().", "^sum().", "^least().", "^most().", "^not a().",
		"a ^b().", "a^.", "a^, b().", "a ^:- b().", "a^)",
		"a(^,1).", "a(1,^).", "a(1 ^2).", "a(1^.", "a(^b).", "a(^(1)).", "a(1^;", "a(^not X).", "a(1 ^- 2).", "a(1 ^+ 2).",
		"a(-^0).", "a(-^-5).", "a(-^X).", "a(-^).", "a(^+5).", "a() :- -^0 < 1.", "a() :- 1 < -^0.", "a() :- 1 - -^0 = 1.",
		"a(count X)^.", "a(1, sum X)^.", "a(least 1)^.", "a(most -1)^.", "a(count X) ^b().", "a(count X)^, b().",
		"a(count X^, Y) :- b().", "a(count X^, count Y) :- b().", "a(count^) :- b().", "a(count ^count X) :- b().", "a(X, count^) :- b().", "a(X ^count) :- b().", "a(count ^not) :- b().",
		"a() ^b().", "a()^, b().", "a() ^= 1.", "a()^:",
		"a() :- ^.", "a() :- ^, b().", "a() :- b() ^c().", "a() :- b(), ^.", "a() :- b() ^:- c().", "a() :- ^:- b().", "a() :- ^(b()).",
		"a() :- ^count(X).", "a() :- ^sum X.", "a() :- b(^count X).", "a() :- not c(^most X).", "a() :- not ^not b().", "a() :- not^(X).", "a() :- not ^X < 1.", "a() :- not ^1.", "a() :- not ^least(X).",
		"a() :- b^.", "a() :- b ^< 1.", "a() :- b() ^< 1.", "a() :- b^, c().",
		"a() :- X^.", "a() :- X^, b().", "a() :- X^(1).", "a() :- X ^Y.", "a() :- X ^:- Y.", "a() :- 1 ^2.",
		"a() :- X < ^.", "a() :- X < ^< 1.", "a() :- X < ^b().", "a() :- X < ^= 1.", "a() :- X < 1 ^< 2.", "a() :- X < 1 ^+ 2.", "a() :- X = 1 ^+ 2.", "a() :- X = 1 ^= 2.",
		"a() :- X + ^.", "a() :- X + ^+ 1 = 2.", "a() :- X + 1^.", "a() :- X + 1 ^< 2.", "a() :- X * 1 ^<= 2.", "a() :- X - 1 ^!= 2.", "a() :- X + 1 ^+ 2 = 3.", "a() :- X + 1 ^2.", "a() :- X * 1 ^Y.", "a() :- X - 1 ^- 2 = 3.", "a() :- X + 1 = ^.", "a() :- X + 1 = ^= 1.", "a() :- X + 1 = 2 ^+ 3.", "a() :- X + 1 = ^b().",
		"a().\n\nb() ^c().", "a(1, 2, 3, 4, 5 ^6).",
	} {
		at := strings.Index(text, "^")
		s := strings.Replace(text, "^", "", 1)
		u, got, e := Parse(s)
		if !same(u, api.Tree{}) || got != at || e != api.ErrForm {
			t.Errorf("Parse(%q) = %v %d %d, want nothing, %d %d", s, u, got, e, at, api.ErrForm)
		}
	}
}

// B2: those of Scan come first, wherever they are; then a wrong form; then, at 0, what Check says.
func TestParseErrorsInOrder(t *testing.T) {
	digits := strings.Repeat("9", api.MaxDigits+1)
	long := strings.Repeat("a", api.MaxName+1)
	for _, c := range []struct {
		text string
		at   int
		err  api.Errno
	}{
		{") ?", 2, api.ErrForm},
		{") 01", 2, api.ErrForm},
		{") " + digits, 2, api.ErrMany},
		{") " + long, 2, api.ErrMany},
		{"a(1, 2, 3, 4). ?", 15, api.ErrForm},
		{"a(1, 2, 3, 4). " + digits, 15, api.ErrMany},
		{"a(1, 2, 3, 4). )", 15, api.ErrForm},
		{"a(1, 2, 3, 4). a", 16, api.ErrForm},
		{" a(1, 2, 3, 4).", 0, api.ErrMany},
		{strings.Repeat(")", api.MaxText+1), 0, api.ErrMany},
		{"a()." + strings.Repeat(" ", api.MaxText-3), 0, api.ErrMany},
		{strings.Repeat(" ", api.MaxText-1) + "a", api.MaxText, api.ErrForm},
	} {
		u, at, e := Parse(c.text)
		if !same(u, api.Tree{}) || at != c.at || e != c.err {
			t.Errorf("Parse(%.40q) = %v %d %d, want nothing, %d %d", c.text, u, at, e, c.at, c.err)
		}
	}
}

// list of some thing, so many times, with a comma between.
func list(s string, many int) string {
	return strings.Join(slices.Repeat([]string{s}, many), ", ")
}

// B2, B3: MaxText, MaxName, MaxDigits, MaxRules, MaxBody, MaxArity, and one beyond each.
func TestParseLimits(t *testing.T) {
	name := strings.Repeat("a", api.MaxName)
	vari := strings.Repeat("A", api.MaxName)
	digits := strings.Repeat("9", api.MaxDigits)
	for _, c := range []struct {
		right, wrong string
		at           int
	}{
		{"a()." + strings.Repeat(" ", api.MaxText-4), "a()." + strings.Repeat(" ", api.MaxText-3), 0},
		{name + "().", name + "a().", 0},
		{"a() :- " + name + "().", "a() :- " + name + "0().", 7},
		{"a(" + vari + ").", "a(" + vari + "A).", 2},
		{"a(" + digits + ").", "a(" + digits + "9).", 2},
		{"a(-" + digits + ").", "a(-" + digits + "0).", 3},
		{strings.Repeat("a().", api.MaxRules), strings.Repeat("a().", api.MaxRules+1), 0},
		{"a() :- " + list("b()", api.MaxBody) + ".", "a() :- " + list("b()", api.MaxBody+1) + ".", 0},
		{"a() :- " + list("1 < 2", api.MaxBody) + ".", "a() :- " + list("1 < 2", api.MaxBody+1) + ".", 0},
		{"a(" + list("X", api.MaxArity) + ").", "a(" + list("X", api.MaxArity+1) + ").", 0},
		{"a(" + list("X", api.MaxArity-1) + ", count X) :- b().", "a(" + list("X", api.MaxArity) + ", count X) :- b().", 0},
		{"a() :- b(" + list("1", api.MaxArity) + ").", "a() :- b(" + list("1", api.MaxArity+1) + ").", 0},
		{"a() :- not b(" + list("1", api.MaxArity) + ").", "a() :- not b(" + list("1", api.MaxArity+1) + ").", 0},
	} {
		if u, at, e := Parse(c.right); len(u.Rules) == 0 || at != 0 || e != api.OK {
			t.Errorf("Parse(%.50q) = %v %d %d, want OK", c.right, u, at, e)
		}
		if u, at, e := Parse(c.wrong); !same(u, api.Tree{}) || at != c.at || e != api.ErrMany {
			t.Errorf("Parse(%.50q) = %v %d %d, want nothing, %d %d", c.wrong, u, at, e, c.at, api.ErrMany)
		}
	}
}

// endings with which some text that stood so far can be ended, if it can be at all.
var endings = []string{"", ".", "().", ").", "X).", "1).", ") :- b().", "X) :- b().", "1) :- b().", ":- b().", "b().", "X.", "1.", "= X.", "= 1.", "X = X.", "1 = X.", "1 < X."}

// ends: can tokens be the beginning of a text?
func ends(t *testing.T, l []api.Token) bool {
	s, e := token.Join(l)
	if e != api.OK {
		t.Fatalf("Join(%v) = %d", l, e)
	}
	return slices.ContainsFunc(endings, func(end string) bool {
		_, _, e := Parse(s + " " + end)
		return e != api.ErrForm
	})
}

// program: a text at random, right but for what may be spoilt in it: tokens are left out, doubled, or changed.
func (d *draw) program() string {
	var l []string
	for range d.n(3) + 1 {
		l = append(l, strings.Fields(pick(d, []string{
			"a ( X , - 1 ) .", "a ( ) .", "a ( X , count Y ) :- b ( X , Y ) .", "a ( most X ) :- not b ( X ) , X < 1 .",
			"a ( ) :- X + - 1 = Y , c ( Y , 2 ) .", "a ( 1 ) :- 1 != 2 , X * 2 = - 3 , not c ( ) .",
		}))...)
	}
	for range d.n(4) {
		i := d.n(len(l))
		switch some := pick(d, []string{"a", "X", "1", "0", "not", "sum", "(", ")", ",", ".", ":-", "<", "=", "+", "-", "*"}); d.n(3) {
		case 0:
			l[i] = some
		case 1:
			l = slices.Insert(l, i, some)
		default:
			l = slices.Delete(l, i, i+1)
		}
		if len(l) == 0 {
			break
		}
	}
	return strings.Join(l, pick(d, []string{" ", "\n", " % note\n\t"}))
}

// B1, B2: an error is at the first token that can't stand there: what is ahead can be ended, with the token it can't.
func TestParseErrorIsFirst(t *testing.T) {
	d := draw(1)
	wrong := 0
	for range 20000 {
		s := d.program()
		l, _, e := token.Scan(s)
		if e != api.OK {
			t.Fatalf("Scan(%q) = %d", s, e)
		}
		u, at, e := Parse(s)
		if e == api.OK {
			if f := Check(u); f != api.OK || at != 0 {
				t.Fatalf("Parse(%q) = %v %d, Check %d", s, u, at, f)
			}
			continue
		}
		if e == api.ErrMany {
			continue
		}
		wrong++
		if at == len(s) {
			if !ends(t, l) {
				t.Fatalf("Parse(%q): more must come, but nothing can", s)
			}
			continue
		}
		i := slices.IndexFunc(l, func(x api.Token) bool { return x.At == at })
		if i < 0 || !ends(t, l[:i]) || ends(t, l[:i+1]) {
			t.Fatalf("Parse(%q) = %d, token %d", s, at, i)
		}
	}
	if wrong < 5000 {
		t.Errorf("only %d texts were wrong", wrong)
	}
}

// one: a tree of a rule with just that literal.
func one(l api.TreeLit) api.Tree {
	return api.Tree{Rules: []api.TreeRule{{Name: "a", Body: []api.TreeLit{l}}}}
}

// B3: rules.
func TestCheckRules(t *testing.T) {
	x := v("X")
	body := []api.TreeLit{yes(0, "b", x)}
	many := strings.Repeat("a", api.MaxName)
	for i, c := range []struct {
		rule api.TreeRule
		want api.Errno
	}{
		{api.TreeRule{Name: "a"}, api.OK},
		{api.TreeRule{Name: "a", At: -5}, api.OK},
		{api.TreeRule{Name: "a", Terms: []api.TreeTerm{}, Body: []api.TreeLit{}}, api.OK},
		{api.TreeRule{Name: many}, api.OK},
		{api.TreeRule{Name: "a", Terms: terms(x, n(3), n(0))}, api.OK},
		{api.TreeRule{Name: "a", Terms: terms(n(9999999), n(-9999999))}, api.OK},
		{api.TreeRule{Name: "a", Terms: terms(v("A" + many[1:]))}, api.OK},
		{api.TreeRule{Name: "a", Terms: terms(x), Fold: api.FoldCount, Body: body}, api.OK},
		{api.TreeRule{Name: "a", Terms: terms(x), Fold: api.FoldMost, Body: body}, api.OK},
		{api.TreeRule{}, api.ErrForm},
		{api.TreeRule{Name: "A"}, api.ErrForm},
		{api.TreeRule{Name: "1"}, api.ErrForm},
		{api.TreeRule{Name: "a b"}, api.ErrForm},
		{api.TreeRule{Name: "a "}, api.ErrForm},
		{api.TreeRule{Name: "a%"}, api.ErrForm},
		{api.TreeRule{Name: many + "a"}, api.ErrForm},
		{api.TreeRule{Name: strings.Repeat("a", api.MaxText+1)}, api.ErrForm},
		{api.TreeRule{Name: "not"}, api.ErrForm},
		{api.TreeRule{Name: "count"}, api.ErrForm},
		{api.TreeRule{Name: "sum"}, api.ErrForm},
		{api.TreeRule{Name: "least"}, api.ErrForm},
		{api.TreeRule{Name: "most"}, api.ErrForm},
		{api.TreeRule{Name: "a", Terms: terms(api.TreeTerm{Var: "X", N: 1})}, api.ErrForm},
		{api.TreeRule{Name: "a", Terms: terms(api.TreeTerm{Var: "X", N: -1})}, api.ErrForm},
		{api.TreeRule{Name: "a", Terms: terms(v("x"))}, api.ErrForm},
		{api.TreeRule{Name: "a", Terms: terms(v("1"))}, api.ErrForm},
		{api.TreeRule{Name: "a", Terms: terms(v(" "))}, api.ErrForm},
		{api.TreeRule{Name: "a", Terms: terms(v(" X"))}, api.ErrForm},
		{api.TreeRule{Name: "a", Terms: terms(v("A" + many))}, api.ErrForm},
		{api.TreeRule{Name: "a", Terms: terms(x, x, v("x"))}, api.ErrForm},
		{api.TreeRule{Name: "a", Terms: terms(n(10000000))}, api.ErrForm},
		{api.TreeRule{Name: "a", Terms: terms(n(-10000000))}, api.ErrForm},
		{api.TreeRule{Name: "a", Terms: terms(n(-1 << 63))}, api.ErrForm},
		{api.TreeRule{Name: "a", Terms: terms(x), Fold: api.FoldMost + 1, Body: body}, api.ErrForm},
		{api.TreeRule{Name: "a", Terms: terms(x), Fold: -1, Body: body}, api.ErrForm},
		{api.TreeRule{Name: "a", Fold: api.FoldSum, Body: body}, api.ErrForm},
		{api.TreeRule{Name: "a", Terms: terms(x), Fold: api.FoldSum}, api.ErrForm},
		{api.TreeRule{Name: "a", Terms: terms(x), Fold: api.FoldSum, Body: []api.TreeLit{}}, api.ErrForm},
		{api.TreeRule{Name: "a", Terms: make([]api.TreeTerm, api.MaxArity+1)}, api.ErrMany},
		{api.TreeRule{Name: "a", Body: slices.Repeat(body, api.MaxBody+1)}, api.ErrMany},
		{api.TreeRule{Name: "a", Body: slices.Repeat(body, api.MaxBody)}, api.OK},
		{api.TreeRule{Name: "not", Terms: make([]api.TreeTerm, api.MaxArity+1), Fold: 9}, api.ErrMany},
		{api.TreeRule{Name: "not", Body: make([]api.TreeLit, api.MaxBody+1)}, api.ErrMany},
	} {
		if e := Check(api.Tree{Rules: []api.TreeRule{c.rule}}); e != c.want {
			t.Errorf("rule %d: Check is %d, want %d", i, e, c.want)
		}
	}
}

// B3: literals.
func TestCheckLiterals(t *testing.T) {
	x := v("X")
	for i, c := range []struct {
		lit  api.TreeLit
		want api.Errno
	}{
		{yes(0, "b"), api.OK},
		{yes(-3, "b", x, n(1), n(-1)), api.OK},
		{no(0, "b", x), api.OK},
		{api.TreeLit{}, api.ErrForm},
		{api.TreeLit{Kind: -1, Name: "b"}, api.ErrForm},
		{api.TreeLit{Kind: api.LitCalc + 1, Name: "b"}, api.ErrForm},
		{yes(0, ""), api.ErrForm},
		{yes(0, "B"), api.ErrForm},
		{yes(0, "sum"), api.ErrForm},
		{no(0, "not"), api.ErrForm},
		{no(0, ""), api.ErrForm},
		{no(0, strings.Repeat("b", api.MaxName)), api.OK},
		{no(0, strings.Repeat("b", api.MaxName+1)), api.ErrForm},
		{api.TreeLit{Kind: api.LitYes, Name: "b", Op: 1}, api.ErrForm},
		{api.TreeLit{Kind: api.LitNot, Name: "b", Op: -1}, api.ErrForm},
		{yes(0, "b", v("b")), api.ErrForm},
		{no(0, "b", n(10000000)), api.ErrForm},
		{test(0, api.OpLess, x, n(2)), api.OK},
		{test(0, api.OpOther, x, x), api.OK},
		{test(0, 0, x, x), api.ErrForm},
		{test(0, -1, x, x), api.ErrForm},
		{test(0, api.OpAdd, x, x), api.ErrForm},
		{test(0, api.OpLess), api.ErrForm},
		{test(0, api.OpLess, x), api.ErrForm},
		{test(0, api.OpLess, x, x, x), api.ErrForm},
		{test(0, api.OpLess, x, api.TreeTerm{Var: "X", N: 2}), api.ErrForm},
		{api.TreeLit{Kind: api.LitTest, Op: api.OpSame, Name: "b", Terms: terms(x, x)}, api.ErrForm},
		{calc(0, api.OpAdd, x, x, x), api.OK},
		{calc(0, api.OpMul, n(0), n(-1), x), api.OK},
		{calc(0, api.OpOther, x, x, x), api.ErrForm},
		{calc(0, api.OpMul+1, x, x, x), api.ErrForm},
		{calc(0, api.OpAdd, x, x), api.ErrForm},
		{calc(0, api.OpAdd, x, x, n(-10000000)), api.ErrForm},
		{api.TreeLit{Kind: api.LitCalc, Op: api.OpAdd, Name: "b", Terms: terms(x, x, x)}, api.ErrForm},
		{yes(0, "b", make([]api.TreeTerm, api.MaxArity+1)...), api.ErrMany},
		{no(0, "b", make([]api.TreeTerm, api.MaxArity+1)...), api.ErrMany},
		{test(0, api.OpLess, make([]api.TreeTerm, api.MaxArity+1)...), api.ErrMany},
		{api.TreeLit{Terms: make([]api.TreeTerm, api.MaxArity+1)}, api.ErrMany},
	} {
		if e := Check(one(c.lit)); e != c.want {
			t.Errorf("literal %d: Check is %d, want %d", i, e, c.want)
		}
	}
}

// B3: whole trees: what is too many anywhere comes ahead of what is wrong anywhere.
func TestCheckTrees(t *testing.T) {
	right := api.TreeRule{Name: "a", Body: []api.TreeLit{yes(0, "b")}}
	wrong := api.TreeRule{Name: "A"}
	wide := api.TreeRule{Name: "a", Body: []api.TreeLit{yes(0, "b"), yes(0, "b", make([]api.TreeTerm, api.MaxArity+1)...)}}
	for i, c := range []struct {
		rules []api.TreeRule
		want  api.Errno
	}{
		{nil, api.OK},
		{[]api.TreeRule{}, api.OK},
		{slices.Repeat([]api.TreeRule{right}, api.MaxRules), api.OK},
		{slices.Repeat([]api.TreeRule{right}, api.MaxRules+1), api.ErrMany},
		{make([]api.TreeRule, api.MaxRules), api.ErrForm},
		{make([]api.TreeRule, api.MaxRules+1), api.ErrMany},
		{[]api.TreeRule{right, right, wrong}, api.ErrForm},
		{[]api.TreeRule{wrong, right, wide}, api.ErrMany},
		{[]api.TreeRule{right, {Name: "a", Body: []api.TreeLit{yes(0, "b"), {}}}}, api.ErrForm},
	} {
		if e := Check(api.Tree{Rules: c.rules}); e != c.want {
			t.Errorf("tree %d: Check is %d, want %d", i, e, c.want)
		}
	}
}

// tree at random: most of its parts are right.
func (d *draw) tree() api.Tree {
	var t api.Tree
	for range d.n(4) {
		r := api.TreeRule{At: d.n(3), Name: d.name(), Terms: d.terms(d.n(api.MaxArity + 1))}
		for range d.n(3) {
			r.Body = append(r.Body, d.lit())
		}
		if d.n(3) == 0 {
			r.Fold = d.n(api.FoldMost+3) - 1
		}
		t.Rules = append(t.Rules, r)
	}
	return t
}

func (d *draw) name() string {
	if d.n(30) > 0 {
		return pick(d, []string{"a", "b", "nota", "abcdefghijkl"})
	}
	return pick(d, []string{"", "not", "most", "X", "1", "a b", "a%", "abcdefghijklm", "a().b"})
}

func (d *draw) terms(many int) []api.TreeTerm {
	var l []api.TreeTerm
	for range many {
		t := pick(d, []api.TreeTerm{v("X"), v("Yy0"), n(0), n(7), n(-7), n(9999999), n(-9999999)})
		if d.n(40) == 0 {
			t = pick(d, []api.TreeTerm{v("x"), v("X "), v("-"), n(10000000), n(-10000000), {Var: "X", N: 1}})
		}
		l = append(l, t)
	}
	return l
}

func (d *draw) lit() api.TreeLit {
	var l api.TreeLit
	switch l.Kind = d.n(4) + 1; l.Kind {
	case api.LitTest:
		l.Op, l.Terms = d.n(4)+api.OpLess, d.terms(2)
	case api.LitCalc:
		l.Op, l.Terms = d.n(3)+api.OpAdd, d.terms(3)
	default:
		l.Name, l.Terms = d.name(), d.terms(d.n(api.MaxArity+1))
	}
	switch d.n(60) {
	case 0:
		l.Kind = d.n(7) - 1
	case 1:
		l.Op = d.n(10) - 1
	case 2:
		l.Name = d.name()
	case 3:
		l.Terms = d.terms(d.n(api.MaxArity + 1))
	}
	return l
}

// written: the text that a tree would have, right or wrong.
func written(t api.Tree) string {
	var b strings.Builder
	for _, r := range t.Rules {
		head := writtenTerms(r.Terms)
		if f := r.Fold - 1; f >= 0 && f < 4 && len(head) > 0 {
			i := len(head) - 1
			head[i] = [...]string{"count ", "sum ", "least ", "most "}[f] + head[i]
		}
		b.WriteString(r.Name + "(" + strings.Join(head, ", ") + ")")
		for i, l := range r.Body {
			b.WriteString([...]string{" :- ", ", "}[min(i, 1)] + writtenLit(l))
		}
		b.WriteString(".\n")
	}
	return b.String()
}

func writtenTerms(l []api.TreeTerm) []string {
	var s []string
	for _, t := range l {
		if t.Var != "" {
			s = append(s, t.Var)
		} else {
			s = append(s, strconv.Itoa(t.N))
		}
	}
	return s
}

func writtenLit(l api.TreeLit) string {
	s := writtenTerms(l.Terms)
	switch {
	case l.Kind == api.LitYes:
		return l.Name + "(" + strings.Join(s, ", ") + ")"
	case l.Kind == api.LitNot:
		return "not " + l.Name + "(" + strings.Join(s, ", ") + ")"
	case l.Op < api.OpLess || l.Op > api.OpMul:
		return "?"
	}
	op := [...]string{" < ", " <= ", " = ", " != ", " + ", " - ", " * "}[l.Op-api.OpLess]
	if len(s) < 3 {
		return strings.Join(s, op)
	}
	return s[0] + op + strings.Join(s[1:], " = ")
}

// B4: Check answers OK just for trees of texts.
func TestCheckIsOfTexts(t *testing.T) {
	d := draw(2)
	right, wrong := 0, 0
	for range 20000 {
		u := d.tree()
		s := written(u)
		w, at, e := Parse(s)
		of := e == api.OK && alike(u, w)
		if c := Check(u); of != (c == api.OK) {
			t.Fatalf("%v is written %q, and that is parsed to %v %d %d, but Check says %d", u, s, w, at, e, c)
		}
		if of {
			right++
		} else {
			wrong++
		}
	}
	if right < 5000 || wrong < 5000 {
		t.Errorf("%d trees were right, %d wrong", right, wrong)
	}
}

// B4: a tree as great as it may be is of a text: that is not too long.
func TestGreatestTreeIsOfText(t *testing.T) {
	name := strings.Repeat("a", api.MaxName)
	l := slices.Repeat(terms(v(strings.Repeat("A", api.MaxName))), api.MaxArity)
	r := api.TreeRule{Name: name, Terms: l, Fold: api.FoldCount, Body: slices.Repeat([]api.TreeLit{no(0, name, l...)}, api.MaxBody)}
	u := api.Tree{Rules: slices.Repeat([]api.TreeRule{r}, api.MaxRules)}
	if w, at, e := Parse(written(u)); e != api.OK || at != 0 || !alike(u, w) || Check(u) != api.OK {
		t.Errorf("the greatest tree: Parse %d %d, Check %d", at, e, Check(u))
	}
}

// P1: no text makes Parse panic, and with an error there is no tree.
func TestParseAnyText(t *testing.T) {
	const often = "aX01:-<=!(),.+* \n%"
	d := draw(3)
	for range 20000 {
		b := make([]byte, d.n(20))
		for i := range b {
			b[i] = often[d.n(len(often))]
			if d.n(50) == 0 {
				b[i] = byte(d.n(256))
			}
		}
		u, at, e := Parse(string(b))
		if e == api.OK && at != 0 || e != api.OK && !same(u, api.Tree{}) || at < 0 || at > len(b) {
			t.Fatalf("Parse(%q) = %v %d %d", b, u, at, e)
		}
		l, to, f := token.Scan(string(b))
		if f != api.OK && (at != to || e != f) {
			t.Fatalf("Parse(%q) = %d %d, Scan %v %d %d", b, at, e, l, to, f)
		}
	}
}

// P2: Check only reads, the spare room of lists too.
func TestCheckOnlyReads(t *testing.T) {
	room := func() api.Tree {
		l := make([]api.TreeTerm, 1, 5)
		copy(l[:5], terms(v("X"), v("spare"), n(7), n(8), n(9)))
		body := make([]api.TreeLit, 1, 3)
		copy(body[:3], []api.TreeLit{yes(1, "b", l...), yes(2, "spare"), {Kind: 99}})
		rules := make([]api.TreeRule, 1, 2)
		copy(rules[:2], []api.TreeRule{{Name: "a", Terms: l, Body: body}, {Name: "Spare"}})
		return api.Tree{Rules: rules}
	}
	all := func(u api.Tree) []any {
		r := u.Rules[0]
		return []any{u.Rules[:2], r.Terms[:5], r.Body[:3]}
	}
	u := room()
	if e := Check(u); e != api.OK {
		t.Errorf("Check is %d", e)
	}
	if !reflect.DeepEqual(all(u), all(room())) {
		t.Errorf("Check has left %v", all(u))
	}
}

// apart: do lists, their spare room too, keep what is written to each, when all have been written to?
func apart[T any](lists [][]T, made func(mark int) T, mark func(T) int) bool {
	for i, l := range lists {
		for j := range l[:cap(l)] {
			l[:cap(l)][j] = made(i)
		}
	}
	for i, l := range lists {
		if slices.ContainsFunc(l[:cap(l)], func(x T) bool { return mark(x) != i }) {
			return false
		}
	}
	return true
}

// P2: no two lists of what is parsed share memory, and none is kept.
func TestParsedIsTheCallers(t *testing.T) {
	const s = "a(X, Y, sum Z) :- b(X), not c(Y, 1), X + Y = Z, X < 3. d(1, 2). e() :- b(X, Y, Z)."
	u, _, _ := Parse(s)
	was := plain(u, false)
	var terms [][]api.TreeTerm
	var bodies [][]api.TreeLit
	for _, r := range u.Rules {
		terms, bodies = append(terms, r.Terms), append(bodies, r.Body)
		for _, l := range r.Body {
			terms = append(terms, l.Terms)
		}
	}
	if !apart(terms, n, func(t api.TreeTerm) int { return t.N }) {
		t.Errorf("lists of terms share memory")
	}
	if !apart(bodies, func(i int) api.TreeLit { return yes(i, "b") }, func(l api.TreeLit) int { return l.At }) {
		t.Errorf("lists of literals share memory")
	}
	clear(u.Rules[:cap(u.Rules)])
	if w, _, e := Parse(s); !same(w, was) || e != api.OK {
		t.Errorf("Parse sees what was done with an earlier answer: %v %d", w, e)
	}
}

// P3: the same each time, whatever was asked between.
func TestSameEachTime(t *testing.T) {
	d := draw(4)
	type answer struct {
		tree api.Tree
		at   int
		err  api.Errno
	}
	var texts []string
	var first []answer
	for range 300 {
		s := d.program()
		u, at, e := Parse(s)
		texts, first = append(texts, s), append(first, answer{u, at, e})
	}
	for i := len(texts) - 1; i >= 0; i-- {
		u, at, e := Parse(texts[i])
		if f := first[i]; !same(u, f.tree) || at != f.at || e != f.err || Check(u) != api.OK {
			t.Errorf("Parse(%q) = %v %d %d, and was %v", texts[i], u, at, e, f)
		}
	}
}
