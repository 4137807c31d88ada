package relation

import (
	"fmt"
	"math"
	"reflect"
	"slices"
	"testing"

	"groundwork/api"
)

// draw numbers for facts that are put together at random; the same each time.
type draw uint64

func (d *draw) n(n int) int {
	*d = *d*6364136223846793005 + 1442695040888963407
	return int(uint64(*d) >> 33 % uint64(n))
}

// fact of few that there are, so that many come twice.
func (d *draw) fact() api.Fact {
	f := api.Fact{Pred: d.n(4) - 1}
	for range d.n(4) {
		f.Args = append(f.Args, d.n(3)-1)
	}
	return f
}

func (d *draw) facts(most int) []api.Fact {
	var l []api.Fact
	for range d.n(most + 1) {
		l = append(l, d.fact())
	}
	return l
}

// mixed: the same facts in another order.
func (d *draw) mixed(l []api.Fact) []api.Fact {
	l = slices.Clone(l)
	for i := range l {
		j := d.n(i + 1)
		l[i], l[j] = l[j], l[i]
	}
	return l
}

func f(pred int, args ...int) api.Fact { return api.Fact{Pred: pred, Args: args} }

func list[T any](l ...T) []T { return l }

// key: what a fact is, whether a list without elements is nil or not.
func key(f api.Fact) string { return fmt.Sprint(f) }

// alike: are lists of facts the same?
func alike(l, m []api.Fact) bool {
	return slices.EqualFunc(l, m, func(a, b api.Fact) bool { return key(a) == key(b) })
}

// rising facts: each stands ahead of all that are behind it.
func rising() []api.Fact {
	return list(
		f(math.MinInt), f(math.MinInt, math.MaxInt),
		f(-1), f(-1, 5),
		f(0), f(0, math.MinInt), f(0, math.MinInt, 0), f(0, -3, 1), f(0, -1), f(0, 0), f(0, 0, 0), f(0, 0, 0, 0), f(0, 0, 0, 0, 0), f(0, 0, 0, 1), f(0, 0, 1), f(0, 1), f(0, 1, math.MinInt), f(0, 2), f(0, 10), f(0, math.MaxInt),
		f(1, -9), f(1, 2), f(2), f(10),
		f(math.MaxInt), f(math.MaxInt, math.MinInt), f(math.MaxInt, math.MaxInt), f(math.MaxInt, math.MaxInt, math.MaxInt),
	)
}

// F1: of each two facts, which one stands ahead.
func TestOrder(t *testing.T) {
	all := rising()
	for i, a := range all {
		for j, b := range all {
			want := 0
			if i < j {
				want = -1
			}
			if i > j {
				want = 1
			}
			if got := Order(a, b); got != want {
				t.Errorf("Order(%v, %v) = %d, want %d", a, b, got, want)
			}
		}
	}
	for _, a := range list(f(0), api.Fact{Args: []int{}}) {
		for _, b := range list(f(0), api.Fact{Args: []int{}}) {
			if got := Order(a, b); got != 0 {
				t.Errorf("Order(%#v, %#v) = %d", a, b, got)
			}
		}
	}
}

// F1, F2: sets of few facts, in every order in which they may come.
func TestSet(t *testing.T) {
	for _, c := range []struct{ l, want []api.Fact }{
		{nil, nil},
		{[]api.Fact{}, nil},
		{list(f(1)), list(f(1))},
		{list(f(1), f(1)), list(f(1))},
		{list(f(0), api.Fact{Args: []int{}}, f(0)), list(f(0))},
		{list(f(1, 2), f(0, 3), f(1), f(1, 2)), list(f(0, 3), f(1), f(1, 2))},
		{list(f(0, 3, 1), f(0, 3), f(0, 3, 1, -2), f(0, -3, 1), f(-1)), list(f(-1), f(0, -3, 1), f(0, 3), f(0, 3, 1), f(0, 3, 1, -2))},
	} {
		for l := range orders(c.l) {
			if got := Set(l); !alike(got, c.want) {
				t.Errorf("Set(%v) = %v, want %v", l, got, c.want)
			}
		}
	}
	d := draw(1)
	for range 20 {
		if got := Set(append(d.mixed(rising()), d.mixed(rising())...)); !alike(got, rising()) {
			t.Errorf("Set is %v, want %v", got, rising())
		}
	}
}

// orders of some facts, all that there are.
func orders(l []api.Fact) func(yield func([]api.Fact) bool) {
	return func(yield func([]api.Fact) bool) {
		if len(l) == 0 {
			yield(slices.Clone(l))
			return
		}
		for i := range l {
			for rest := range orders(slices.Delete(slices.Clone(l), i, i+1)) {
				if !yield(append(rest, l[i])) {
					return
				}
			}
		}
	}
}

// F1: what is among facts, in whatever order they are.
func TestHas(t *testing.T) {
	l := list(f(2, 1), f(0), f(1, 1, 2), f(0), f(-1, 3))
	for _, c := range []struct {
		l    []api.Fact
		f    api.Fact
		want bool
	}{
		{nil, f(0), false},
		{[]api.Fact{}, f(0), false},
		{l, f(2, 1), true},
		{l, f(0), true},
		{l, api.Fact{Args: []int{}}, true},
		{list(api.Fact{Args: []int{}}), f(0), true},
		{l, f(1, 1, 2), true},
		{l, f(-1, 3), true},
		{l, f(2), false},
		{l, f(2, 2), false},
		{l, f(2, 1, 0), false},
		{l, f(1, 1), false},
		{l, f(1, 2, 1), false},
		{l, f(0, 0), false},
		{l, f(1, 3), false},
		{l, f(3, 1), false},
	} {
		if got := Has(c.l, c.f); got != c.want {
			t.Errorf("Has(%v, %v) = %v", c.l, c.f, got)
		}
	}
}

// F1: both together, and one without the other.
func TestUnionAndMinus(t *testing.T) {
	l, m := list(f(1, 2), f(0, 3), f(1, 2), f(-1)), list(f(2), f(0, 3), f(0), f(2))
	for _, c := range []struct{ l, m, union, minus []api.Fact }{
		{nil, nil, nil, nil},
		{nil, []api.Fact{}, nil, nil},
		{l, nil, Set(l), Set(l)},
		{nil, l, Set(l), nil},
		{l, l, Set(l), nil},
		{l, m, list(f(-1), f(0), f(0, 3), f(1, 2), f(2)), list(f(-1), f(1, 2))},
		{m, l, list(f(-1), f(0), f(0, 3), f(1, 2), f(2)), list(f(0), f(2))},
		{list(f(0)), list(api.Fact{Args: []int{}}), list(f(0)), nil},
		{list(f(0, 1)), list(f(0)), list(f(0), f(0, 1)), list(f(0, 1))},
		{list(f(0)), list(f(0, 1)), list(f(0), f(0, 1)), list(f(0))},
	} {
		if got := Union(c.l, c.m); !alike(got, c.union) {
			t.Errorf("Union(%v, %v) = %v, want %v", c.l, c.m, got, c.union)
		}
		if got := Minus(c.l, c.m); !alike(got, c.minus) {
			t.Errorf("Minus(%v, %v) = %v, want %v", c.l, c.m, got, c.minus)
		}
	}
}

// F1: which facts match; bound may tell of fewer numbers than there are, or of more.
func TestMatch(t *testing.T) {
	l := list(f(0, 3, 1), f(0, 2, 1), f(0, 3, 1), f(0, -3, 1), f(0, 3), f(0, 3, 1, 1), f(0, 3, 2), f(0), f(1, 3, 1), f(-1, 3, 1))
	pairs := list(f(0, -3, 1), f(0, 2, 1), f(0, 3, 1), f(0, 3, 2))
	for _, c := range []struct {
		pred  int
		args  []int
		bound []bool
		want  []api.Fact
	}{
		{0, list(3, 1), nil, pairs},
		{0, list(9, 9), []bool{}, pairs},
		{0, list(9, 9), list(false, false), pairs},
		{0, list(3, 9), list(true), list(f(0, 3, 1), f(0, 3, 2))},
		{0, list(3, 9), list(true, false), list(f(0, 3, 1), f(0, 3, 2))},
		{0, list(9, 1), list(false, true), list(f(0, -3, 1), f(0, 2, 1), f(0, 3, 1))},
		{0, list(3, 1), list(true, true), list(f(0, 3, 1))},
		{0, list(3, 1), list(true, true, true, true), list(f(0, 3, 1))},
		{0, list(3, 9), list(true, false, true), list(f(0, 3, 1), f(0, 3, 2))},
		{0, list(1, 3), list(true, true), nil},
		{0, list(9, 1), list(true), nil},
		{0, nil, nil, list(f(0))},
		{0, []int{}, list(true), list(f(0))},
		{0, list(9), nil, list(f(0, 3))},
		{0, list(9), list(false, true, true), list(f(0, 3))},
		{0, list(9), list(true), nil},
		{0, list(9, 9, 1), list(false, false, true), list(f(0, 3, 1, 1))},
		{0, list(3, 1, 1, 0), nil, nil},
		{1, list(0, 0), nil, list(f(1, 3, 1))},
		{-1, list(3, 0), list(true), list(f(-1, 3, 1))},
		{2, list(3, 1), nil, nil},
		{math.MaxInt, nil, nil, nil},
	} {
		if got := Match(l, c.pred, c.args, c.bound); !alike(got, c.want) {
			t.Errorf("Match(%d, %v, %v) = %v, want %v", c.pred, c.args, c.bound, got, c.want)
		}
	}
	if got := Match(nil, 0, list(1), list(true)); len(got) != 0 {
		t.Errorf("Match of nothing is %v", got)
	}
}

// isSet: is each fact ahead of the next one?
func isSet(l []api.Fact) bool {
	for i := range l[:max(len(l)-1, 0)] {
		if Order(l[i], l[i+1]) >= 0 {
			return false
		}
	}
	return true
}

// among: facts by their keys.
func among(l []api.Fact) map[string]bool {
	keys := map[string]bool{}
	for _, f := range l {
		keys[key(f)] = true
	}
	return keys
}

// all facts that draw could draw.
func all() []api.Fact {
	var l []api.Fact
	lists := [][]int{nil}
	for len(lists[0]) < 4 {
		args := lists[0]
		lists = lists[1:]
		for pred := -1; pred < 3; pred++ {
			l = append(l, f(pred, args...))
		}
		for n := -1; n < 2; n++ {
			lists = append(lists, append(slices.Clone(args), n))
		}
	}
	return l
}

// F1, F2: what is in sets of any facts, of each fact that there is: told by Has, and by a map.
func TestSetsAtRandom(t *testing.T) {
	d := draw(2)
	world := all()
	for range 300 {
		l, m := d.facts(60), d.facts(60)
		pred, args, bound := d.n(4)-1, d.fact().Args, make([]bool, d.n(5))
		for i := range bound {
			bound[i] = d.n(2) == 1
		}
		inL, inM := among(l), among(m)
		sets := [][]api.Fact{l, Set(l), Union(l, m), Minus(l, m), Match(l, pred, args, bound)}
		has := make([]map[string]bool, len(sets))
		for i, s := range sets {
			has[i] = among(s)
			if i > 0 && !isSet(s) {
				t.Fatalf("set %d of %v and %v is %v", i, l, m, s)
			}
		}
		for _, f := range world {
			k := key(f)
			so := f.Pred == pred && len(f.Args) == len(args)
			for i := 0; so && i < len(args) && i < len(bound); i++ {
				so = !bound[i] || f.Args[i] == args[i]
			}
			for i, want := range []bool{inL[k], inL[k], inL[k] || inM[k], inL[k] && !inM[k], inL[k] && so} {
				if Has(sets[i], f) != want || has[i][k] != want {
					t.Fatalf("set %d of %v and %v (%d %v %v) is %v: has it %v?", i, l, m, pred, args, bound, sets[i], f)
				}
			}
		}
	}
}

// F2: in whatever order facts come, and again of the sets that came out.
func TestSetsAreWhatTheyWere(t *testing.T) {
	d := draw(3)
	for range 300 {
		l, m := d.facts(30), d.facts(30)
		l2, m2 := append(d.mixed(l), d.mixed(l)...), d.mixed(m)
		for i, c := range [][2][]api.Fact{
			{Set(l), Set(l2)},
			{Set(l), Set(Set(l))},
			{Union(l, m), Union(m2, l2)},
			{Union(l, m), Union(Set(l), Set(m))},
			{Minus(l, m), Minus(l2, m2)},
			{Minus(l, m), Minus(Set(l), Set(m))},
			{Union(l, m), Union(Minus(l, m), m)},
			{Set(l), Union(Minus(l, m), Minus(l, Minus(l, m)))},
			{Match(l, 0, list(1, 0), list(true)), Match(l2, 0, list(1, 7), list(true, false))},
		} {
			if !alike(c[0], c[1]) {
				t.Fatalf("pair %d of %v and %v: %v is not %v", i, l, m, c[0], c[1])
			}
		}
	}
}

// P1, P4: many facts, and one of many numbers.
func TestManyFacts(t *testing.T) {
	const many = 100000
	var l []api.Fact
	for i := range many {
		l = append(l, f(i*7919%many, i%3))
	}
	wide := api.Fact{Pred: 5, Args: make([]int, many)}
	if s := Set(l); len(s) != many || !isSet(s) {
		t.Errorf("Set has %d", len(s))
	}
	if s := Union(l, l[:many/2]); len(s) != many {
		t.Errorf("Union has %d", len(s))
	}
	if s := Minus(l, l[many/4:]); len(s) != many/4 {
		t.Errorf("Minus has %d", len(s))
	}
	if s := Match(append(l, wide), 5, wide.Args, make([]bool, many)); !alike(s, list(wide)) {
		t.Errorf("Match has %d", len(s))
	}
}

// spare: a list with more behind it.
func spare[T any](l []T, more ...T) []T { return slices.Concat(l, more)[: len(l) : len(l)+len(more)] }

// given: what calls are handed.
type given struct {
	l, m  []api.Fact
	args  []int
	bound []bool
}

// newGiven: with spare room, in that of l enough for all of m.
func newGiven() given {
	return given{
		spare(list(f(1, 2), api.Fact{Args: spare(list(3, 1), 99)}, f(1, 2), f(-1), f(0, 2, 1)), f(0, 0), f(-9), f(5), f(6)),
		spare(list(f(7), api.Fact{Pred: 3, Args: spare(list(3), -99)}, f(-1)), f(0, 3, 1), f(-8)),
		spare(list(3, 1), 5, 4),
		spare(list(false), true, true),
	}
}

func (g given) all() []any {
	return []any{g.l[:9], g.m[:5], g.l[1].Args[:3], g.m[1].Args[:2], g.args[:4], g.bound[:3]}
}

// answers of all that is told by sets.
func (g given) answers() [][]api.Fact {
	return [][]api.Fact{Set(g.l), Union(g.l, g.m), Minus(g.l, g.m), Match(g.l, 0, g.args, g.bound)}
}

// P2: what is handed in is only read, spare room too.
func TestOnlyReads(t *testing.T) {
	g := newGiven()
	g.answers()
	if Order(g.l[0], g.l[1]) != 1 || Has(g.l, f(0, 0)) || !Has(g.m, f(3, 3)) {
		t.Errorf("Order or Has is wrong")
	}
	if !reflect.DeepEqual(g.all(), newGiven().all()) {
		t.Errorf("what is left is %v", g.all())
	}
}

// P2: an answer does not change with what was handed in.
func TestAnswersStay(t *testing.T) {
	g := newGiven()
	got := g.answers()
	for _, l := range list(g.l[:9], g.m[:5]) {
		for _, f := range l {
			for i := range f.Args[:cap(f.Args)] {
				f.Args[:cap(f.Args)][i] = 1000
			}
		}
		clear(l)
	}
	for i, want := range newGiven().answers() {
		if !alike(got[i], want) {
			t.Errorf("answer %d is now %v, was %v", i, got[i], want)
		}
	}
}

// P2: no two lists of an answer share memory, and none is kept.
func TestAnswersAreTheCallers(t *testing.T) {
	args := list(3, 1)
	l := list(api.Fact{Args: args}, api.Fact{Pred: 1, Args: args}, api.Fact{Pred: 2, Args: args[:1]}, api.Fact{Args: args})
	g := given{l, append(l, f(9)), args, nil}
	want := g.answers()
	for i, got := range g.answers() {
		for j, f := range got {
			for k := range f.Args[:cap(f.Args)] {
				f.Args[:cap(f.Args)][k] = 100 + j
			}
		}
		for j, f := range got {
			if slices.ContainsFunc(f.Args[:cap(f.Args)], func(n int) bool { return n != 100+j }) {
				t.Errorf("answer %d: lists share memory: %v", i, got)
			}
		}
		for _, f := range got[:cap(got)][len(got):] {
			if len(f.Args) > 0 {
				t.Errorf("answer %d: %v lies in the spare room", i, f)
			}
		}
		clear(got[:cap(got)])
	}
	for i, again := range g.answers() {
		if !alike(again, want[i]) {
			t.Errorf("answer %d is %v, was %v", i, again, want[i])
		}
	}
	if !slices.Equal(args, list(3, 1)) {
		t.Errorf("what was handed in is now %v", args)
	}
}

// P3: the same each time, whatever was asked between.
func TestSameEachTime(t *testing.T) {
	var first [][]api.Fact
	for range 3 {
		d := draw(4)
		var now [][]api.Fact
		for range 50 {
			g := given{d.facts(20), d.facts(20), d.fact().Args, list(d.n(2) == 0)}
			now = append(now, g.answers()...)
		}
		if first == nil {
			first = now
		}
		if !slices.EqualFunc(first, now, alike) {
			t.Errorf("answers are %v, were %v", now, first)
		}
	}
}
