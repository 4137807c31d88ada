package dag

import (
	"fmt"
	"math"
	"slices"
	"strings"
	"testing"

	"groundwork/api"
)

func id(author, number int) api.Id { return api.Id{Author: author, Number: number} }

func f(pred int, args ...int) api.Fact { return api.Fact{Pred: pred, Args: args} }

// made: an update of words: its id, as 0.1; with < ahead a parent, with - one that it takes, with + a number of what it says.
func made(t *testing.T, s string) api.Update {
	var u api.Update
	for i, w := range strings.Fields(s) {
		var x api.Id
		n := 0
		_, bad := fmt.Sscanf(strings.TrimLeft(w, "<-"), "%d.%d", &x.Author, &x.Number)
		switch {
		case i == 0:
			u.Id = x
		case w[0] == '<':
			u.Parents = append(u.Parents, x)
		case w[0] == '-':
			u.Takes = append(u.Takes, x)
		default:
			_, bad = fmt.Sscanf(w, "+%d", &n)
			u.Says = append(u.Says, f(0, n))
		}
		if bad != nil {
			t.Fatalf("%q: %v", s, bad)
		}
	}
	return u
}

// several updates of words, with semicolons between.
func several(t *testing.T, s string) []api.Update {
	var l []api.Update
	for w := range strings.SplitSeq(s, ";") {
		if strings.TrimSpace(w) != "" {
			l = append(l, made(t, w))
		}
	}
	return l
}

// replica of words: what it has, then behind a stroke what waits.
func replica(t *testing.T, s string) api.Replica {
	has, waits, _ := strings.Cut(s, "|")
	return api.Replica{Has: several(t, has), Waits: several(t, waits)}
}

// same: is what is told the same, an empty list and none alike?
func same[T any](a, b T) bool { return fmt.Sprint(a) == fmt.Sprint(b) }

// told: ids of what it has, and of what waits.
func told(r api.Replica) string {
	var words []string
	for _, l := range [][]api.Update{r.Has, r.Waits} {
		for _, u := range l {
			words = append(words, fmt.Sprintf("%d.%d", u.Id.Author, u.Id.Number))
		}
		words = append(words, "|")
	}
	return strings.Join(words[:len(words)-1], " ")
}

// row of an author's updates, each behind the one ahead.
func row(author, n int) []api.Update {
	var l []api.Update
	for i := range n {
		u := api.Update{Id: id(author, i+1)}
		if i > 0 {
			u.Parents = []api.Id{id(author, i)}
		}
		l = append(l, u)
	}
	return l
}

// L1: what may be in a replica, and what not.
func TestCheck(t *testing.T) {
	for _, c := range []struct {
		s    string
		want api.Errno
	}{
		{"", api.OK},
		{"0.1", api.OK},
		{"0.1; 0.2 <0.1; 1.1; 5.1 <0.2 -1.1", api.OK},
		// It need not stand behind what it hangs on.
		{"0.1 <5.1; 0.2 <0.1 -4.1; 4.1; 5.1 <4.1", api.OK},
		// Wrong updates.
		{"0.0", api.ErrRange},
		{"6.1", api.ErrRange},
		{"0.1; 0.2", api.ErrNone},
		{"0.1 +2 +1", api.ErrState},
		{"0.1 <1.0", api.ErrRange},
		{"| 0.0", api.ErrRange},
		{"| 0.2", api.ErrNone},
		{"0.1 | 1.1 <2.1 +1 +1", api.ErrState},
		// Of several the first one of Has, then of Waits.
		{"0.1 +1 +1; 0.2; 6.1", api.ErrState},
		{"0.2; 0.1 +1 +1; 6.1", api.ErrNone},
		{"0.1; 0.2 | 6.1", api.ErrNone},
		{"0.1 | 6.1; 0.2", api.ErrRange},
		// Ids that don't rise.
		{"0.1; 0.1", api.ErrState},
		{"1.1; 0.1", api.ErrState},
		{"0.1; 0.2 <0.1; 0.2 <0.1", api.ErrState},
		{"0.1; 0.3 <0.2; 0.2 <0.1", api.ErrState},
		{"| 1.1 <2.1; 1.1 <2.1", api.ErrState},
		{"| 1.1 <2.1; 0.1 <2.1", api.ErrState},
		{"0.1; 1.1; 2.1; 1.2 <1.1", api.ErrState},
		// One id in both, the same or not.
		{"0.1 | 0.1", api.ErrState},
		{"0.1; 1.1 | 0.1 <3.1", api.ErrState},
		{"0.1; 1.1 | 0.2 <0.1 <3.1; 1.1 <3.1", api.ErrState},
		// What it hangs on is not there, or waits.
		{"0.1 <1.1", api.ErrNone},
		{"0.1 -1.1", api.ErrNone},
		{"0.1; 1.1 <0.1; 2.1 <0.1 <1.1 <3.1", api.ErrNone},
		{"0.1; 1.1 <0.1; 2.1 <0.1 -0.1 -3.1", api.ErrNone},
		{"0.2 <0.1", api.ErrNone},
		{"0.1 <1.1 | 1.1 <2.1", api.ErrNone},
		{"0.1 -1.1 | 1.1 <2.1", api.ErrNone},
		// Behind itself: at once, by others, by what is taken.
		{"0.1 <0.1", api.ErrState},
		{"0.1 -0.1", api.ErrState},
		{"0.1 <0.2; 0.2 <0.1", api.ErrState},
		{"0.1 <1.1; 1.1 <0.1", api.ErrState},
		{"0.1 <1.1; 1.1 -0.1", api.ErrState},
		{"0.1 -1.1; 1.1 -0.1", api.ErrState},
		{"0.1; 0.2 <0.1 <1.1; 1.1 -2.1; 2.1 <0.2; 3.1", api.ErrState},
		{"0.1; 0.2 <0.1 <1.1; 1.1 -2.1; 2.1 <0.1; 3.1", api.OK},
		// Twice the same behind it is no round.
		{"0.1; 0.2 <0.1 -0.1; 1.1 <0.1 <0.2 -0.1 -0.2", api.OK},
		// It waits for a parent, or one that it takes, maybe for what waits.
		{"| 0.1 <1.1", api.OK},
		{"| 0.1 -1.1", api.OK},
		{"| 0.1 <1.1; 1.1 <2.1; 2.1 -3.1", api.OK},
		{"0.1; 1.1 | 0.2 <0.1 <2.1; 1.2 <1.1 -0.1 -3.1", api.OK},
		// It waits for itself: nobody is behind itself who waits.
		{"| 0.1 <0.1", api.OK},
		{"| 0.1 -0.1", api.OK},
		{"| 0.1 <1.1; 1.1 <0.1", api.OK},
		{"0.1; 3.1 | 0.2 <0.1 <1.1; 1.1 -0.2", api.OK},
		// It need not wait.
		{"| 0.1", api.ErrState},
		{"| 0.1 +1", api.ErrState},
		{"0.1 | 0.2 <0.1", api.ErrState},
		{"0.1 | 1.1 -0.1", api.ErrState},
		{"0.1; 1.1 | 0.2 <0.1 -1.1", api.ErrState},
		{"0.1; 1.1 | 0.2 <0.1 <3.1; 1.2 <1.1", api.ErrState},
		{"0.1; 1.1 | 0.2 <0.1; 1.2 <1.1 <3.1", api.ErrState},
	} {
		r := replica(t, c.s)
		if e := Check(r); e != c.want {
			t.Errorf("Check(%s) = %d, want %d", c.s, e, c.want)
		}
	}
}

// fault: what makes a replica wrong, and how it is told.
type fault struct {
	spoil func(*api.Replica)
	want  api.Errno
}

// faults in the order in which the document names them; each leaves whatever others spoil as wrong as it was.
func faults(t *testing.T) []fault {
	waits := func(s string) func(*api.Replica) {
		return func(r *api.Replica) { r.Waits = append(r.Waits, several(t, s)...) }
	}
	has := func(s string) func(*api.Replica) {
		return func(r *api.Replica) { r.Has = append(r.Has, several(t, s)...) }
	}
	return []fault{
		{func(r *api.Replica) { r.Waits = append(r.Waits, slices.Repeat(r.Waits, 200)...) }, api.ErrMany},
		{has("5.3"), api.ErrNone},
		{waits("5.4 <9.9"), api.ErrRange},
		{func(r *api.Replica) { r.Has = append(several(t, "5.1"), r.Has...) }, api.ErrState},
		{func(r *api.Replica) { r.Waits = append(several(t, "5.1 <4.9"), r.Waits...) }, api.ErrState},
		{has("2.1 <1.1"), api.ErrNone},
		{has("3.1 -3.1"), api.ErrState},
		{waits("4.1"), api.ErrState},
	}
}

// L1, P1: of two errors the one that is named first, by each call, and nothing beside it.
func TestErrorOrder(t *testing.T) {
	for i, first := range faults(t) {
		for j, then := range faults(t)[i:] {
			r := replica(t, "0.1; 0.2 <0.1 | 0.3 <0.2 <5.9")
			if e := Check(r); e != api.OK {
				t.Fatal(e)
			}
			first.spoil(&r)
			if j > 0 {
				then.spoil(&r)
			}
			h, e := Heads(r)
			l, g := Facts(r)
			x, k := Add(r, api.Update{})
			y, m := Add(r, made(t, "0.1"))
			if got := []api.Errno{Check(r), e, g, k, m}; !slices.Equal(got, slices.Repeat([]api.Errno{first.want}, 5)) {
				t.Errorf("faults %d and %d: %v, want %d", i, i+j, got, first.want)
			}
			if h != nil || l != nil || !same(x, api.Replica{}) || !same(y, api.Replica{}) {
				t.Errorf("faults %d and %d: %v %v %v %v", i, i+j, h, l, x, y)
			}
		}
	}
}

// L1: as many as may be, and one more, wherever they are.
func TestMaxUpdates(t *testing.T) {
	var waits []api.Update
	for n := range 199 {
		waits = append(waits, api.Update{Id: id(1, n+2), Parents: []api.Id{id(1, n+1)}})
	}
	last := made(t, "2.2 <2.1")
	for _, c := range []struct {
		r    api.Replica
		want api.Errno
	}{
		{api.Replica{Has: row(0, 200)}, api.OK},
		{api.Replica{Has: append(row(0, 200), row(1, 1)...)}, api.ErrMany},
		{api.Replica{Waits: append(waits, last)}, api.OK},
		{api.Replica{Waits: append(waits, last, made(t, "3.2 <3.1"))}, api.ErrMany},
		{api.Replica{Has: row(0, 150), Waits: waits[:50]}, api.OK},
		{api.Replica{Has: row(0, 150), Waits: waits[:51]}, api.ErrMany},
		{api.Replica{Has: row(0, 1), Waits: waits}, api.OK},
		{api.Replica{Has: row(0, 2), Waits: waits}, api.ErrMany},
		{api.Replica{Has: make([]api.Update, 200)}, api.ErrRange},
		{api.Replica{Has: make([]api.Update, 201)}, api.ErrMany},
		{api.Replica{Waits: make([]api.Update, 100000)}, api.ErrMany},
	} {
		if e := Check(c.r); e != c.want {
			t.Errorf("Check of %d and %d: %d, want %d", len(c.r.Has), len(c.r.Waits), e, c.want)
		}
	}
}

// L2: what an update does: it waits, or goes to Has, and others with it.
func TestAdd(t *testing.T) {
	for _, c := range []struct{ r, u, want string }{
		{"", "0.1", "0.1 |"},
		{"", "0.1 <1.1", "| 0.1"},
		{"", "0.1 -1.1", "| 0.1"},
		{"", "0.1 <0.1", "| 0.1"},
		{"", "5.200 <5.199", "| 5.200"},
		{"0.1", "0.2 <0.1", "0.1 0.2 |"},
		{"0.1", "0.2 <0.1 -0.1", "0.1 0.2 |"},
		{"0.1", "0.2 <0.1 <1.1", "0.1 | 0.2"},
		{"0.1", "0.2 <0.1 -1.1", "0.1 | 0.2"},
		{"0.1", "0.2 <0.1 -0.2", "0.1 | 0.2"},
		// In order of ids, wherever it comes to be.
		{"0.1; 2.1", "1.1", "0.1 1.1 2.1 |"},
		{"1.1; 2.1", "0.1", "0.1 1.1 2.1 |"},
		{"0.1; 1.1", "2.1", "0.1 1.1 2.1 |"},
		{"| 0.1 <5.1; 2.1 <5.1", "1.1 <5.1", "| 0.1 1.1 2.1"},
		{"| 1.1 <5.1; 2.1 <5.1", "0.1 <5.1", "| 0.1 1.1 2.1"},
		// Others come with it, and others with those.
		{"| 0.1 <1.1", "1.1", "0.1 1.1 |"},
		{"| 0.1 -1.1", "1.1", "0.1 1.1 |"},
		{"| 0.1 <1.1; 1.1 <2.1; 2.1 <3.1", "3.1", "0.1 1.1 2.1 3.1 |"},
		{"| 1.1 <0.1; 2.1 -1.1; 3.1 <2.1", "0.1", "0.1 1.1 2.1 3.1 |"},
		{"| 0.1 <2.1; 1.1 <4.1; 2.1 <3.1", "3.1", "0.1 2.1 3.1 | 1.1"},
		{"| 0.1 <2.1 <5.1; 1.1 -0.1; 2.1 -3.1", "3.1", "2.1 3.1 | 0.1 1.1"},
		{"0.1; 0.2 <0.1 | 1.1 <0.2 -2.1", "2.1", "0.1 0.2 1.1 2.1 |"},
		// It waits itself, so others still do.
		{"| 0.1 <1.1", "1.1 <2.1", "| 0.1 1.1"},
		{"| 0.1 <1.1", "1.1 <0.1", "| 0.1 1.1"},
		{"0.1 | 0.2 <0.1 <1.1", "1.1 -0.2", "0.1 | 0.2 1.1"},
		{"| 0.1 <1.1; 2.1 <0.1", "1.1 -0.1", "| 0.1 1.1 2.1"},
		{"| 0.1 <0.1; 2.1 <3.1", "3.1", "2.1 3.1 | 0.1"},
		// One with that id is there.
		{"0.1", "0.1", "0.1 |"},
		{"0.1", "0.1 <1.1", "0.1 |"},
		{"0.1; 1.1", "0.1 +7 -1.1", "0.1 1.1 |"},
		{"| 0.1 <1.1", "0.1", "| 0.1"},
		{"| 0.1 <1.1; 2.1 <0.1", "0.1 +7", "| 0.1 2.1"},
	} {
		r, u := replica(t, c.r), made(t, c.u)
		got, e := Add(r, u)
		if told(got) != c.want || e != api.OK || Check(got) != api.OK {
			t.Errorf("Add(%s, %s) = %s %d, want %s", c.r, c.u, told(got), e, c.want)
		}
		all := slices.Concat(r.Has, r.Waits, []api.Update{u})
		for _, x := range slices.Concat(got.Has, got.Waits) {
			was := all[slices.IndexFunc(all, func(y api.Update) bool { return x.Id == y.Id })]
			if !same(x, was) {
				t.Errorf("Add(%s, %s): %v, which was %v", c.r, c.u, x, was)
			}
		}
	}
}

// L2: errors: Check; Check of chapter 11; that there would be too many: but not if it is there.
func TestAddErrors(t *testing.T) {
	full := api.Replica{Has: row(0, 200)}
	mixed := api.Replica{Has: row(0, 199), Waits: several(t, "1.1 <2.1")}
	near := api.Replica{Has: row(0, 198), Waits: several(t, "1.1 <2.1")}
	wrong := replica(t, "| 0.1")
	for i, c := range []struct {
		r    api.Replica
		u    api.Update
		want api.Errno
	}{
		{wrong, made(t, "0.1"), api.ErrState},
		{wrong, made(t, "0.2"), api.ErrState},
		{wrong, api.Update{}, api.ErrState},
		{api.Replica{Has: make([]api.Update, 201)}, api.Update{}, api.ErrMany},
		{api.Replica{}, api.Update{}, api.ErrRange},
		{api.Replica{}, made(t, "0.2"), api.ErrNone},
		{api.Replica{}, made(t, "0.1 +1 +1"), api.ErrState},
		{api.Replica{}, api.Update{Id: id(0, 1), Takes: make([]api.Id, 7)}, api.ErrMany},
		{api.Replica{}, api.Update{Id: id(math.MaxInt, math.MinInt)}, api.ErrRange},
		{api.Replica{}, api.Update{Id: id(0, 1), Says: []api.Fact{f(0, math.MinInt)}}, api.ErrRange},
		// A wrong one, though its id is there.
		{replica(t, "0.1"), made(t, "0.1 +1 +1"), api.ErrState},
		{replica(t, "0.1; 0.2 <0.1"), made(t, "0.2"), api.ErrNone},
		{full, made(t, "0.1 +1 +1"), api.ErrState},
		{full, made(t, "0.1"), api.OK},
		{full, made(t, "0.200 <0.199 <5.1"), api.OK},
		{full, made(t, "1.1"), api.ErrMany},
		{full, made(t, "1.1 <2.1"), api.ErrMany},
		{full, made(t, "1.2"), api.ErrNone},
		{mixed, made(t, "1.1 <2.1"), api.OK},
		{mixed, made(t, "1.1"), api.OK},
		{mixed, made(t, "2.1"), api.ErrMany},
		{near, made(t, "2.1"), api.OK},
		{near, made(t, "2.1 <3.1"), api.OK},
	} {
		got, e := Add(c.r, c.u)
		if e != c.want || e != api.OK && !same(got, api.Replica{}) {
			t.Errorf("case %d: %v %d, want %d", i, told(got), e, c.want)
		}
	}
}

// L3: heads of what it has; what waits has none, and hides none.
func TestHeads(t *testing.T) {
	for _, c := range []struct {
		r    string
		want []api.Id
	}{
		{"", nil},
		{"0.1", []api.Id{id(0, 1)}},
		{"0.1; 0.2 <0.1", []api.Id{id(0, 2)}},
		{"0.1; 0.2 <0.1; 1.1 <0.1", []api.Id{id(0, 2), id(1, 1)}},
		{"0.1; 0.2 <0.1; 1.1 <0.1; 2.1 <0.2 <1.1; 3.1", []api.Id{id(2, 1), id(3, 1)}},
		{"0.1 <1.1; 1.1", []api.Id{id(0, 1)}},
		// What is taken is a head all the same.
		{"0.1; 1.1 -0.1", []api.Id{id(0, 1), id(1, 1)}},
		{"0.1; 0.2 <0.1 -0.1", []api.Id{id(0, 2)}},
		{"0.1 | 0.2 <0.1 <1.1", []api.Id{id(0, 1)}},
		{"| 0.2 <0.1", nil},
	} {
		got, e := Heads(replica(t, c.r))
		if !slices.Equal(got, c.want) || e != api.OK {
			t.Errorf("Heads(%s) = %v %d, want %v", c.r, got, e, c.want)
		}
	}
}

// L3: facts of what it has, without those that only updates say that are taken back.
func TestFacts(t *testing.T) {
	for _, c := range []struct {
		r    string
		want []int
	}{
		{"", nil},
		{"0.1", nil},
		{"0.1 +3 +5", []int{3, 5}},
		{"0.1 +3 +5; 1.1 +1 +4", []int{1, 3, 4, 5}},
		{"0.1 +3 +5; 1.1 +1 +5; 2.1 +5", []int{1, 3, 5}},
		{"0.1 +3 +5; 1.1 -0.1", nil},
		{"0.1 +3 +5; 1.1 -0.1 +2", []int{2}},
		{"0.1 +3 +5; 0.2 <0.1 -0.1 +5 +6", []int{5, 6}},
		// A parent that is not taken says it still.
		{"0.1 +3 +5; 0.2 <0.1 +6", []int{3, 5, 6}},
		// Somebody else says it too.
		{"0.1 +3 +5; 1.1 +5; 2.1 -0.1", []int{5}},
		{"0.1 +3 +5; 1.1 +5; 2.1 -0.1 -1.1", nil},
		{"0.1 +3; 1.1 -0.1; 2.1 -0.1", nil},
		// Who takes back what takes back, brings nothing again: what it says goes.
		{"0.1 +3; 1.1 -0.1 +4; 2.1 -1.1", nil},
		{"0.1 +3; 1.1 -0.1 +4; 2.1 -1.1 +3", []int{3}},
		// What waits says nothing, and takes nothing back.
		{"0.1 +3 | 1.1 <2.1 +4", []int{3}},
		{"0.1 +3 | 1.1 <2.1 -0.1", []int{3}},
		{"| 1.1 <2.1 +4", nil},
	} {
		var want []api.Fact
		for _, n := range c.want {
			want = append(want, f(0, n))
		}
		got, e := Facts(replica(t, c.r))
		if !same(got, want) || e != api.OK {
			t.Errorf("Facts(%s) = %v %d, want %v", c.r, got, e, want)
		}
	}
}

// L3: as Set: by predicate, then by numbers, a shorter one ahead; there may be many.
func TestFactsInOrder(t *testing.T) {
	r := api.Replica{Has: []api.Update{{Id: id(0, 1), Says: []api.Fact{f(1, 2), f(2)}}, {Id: id(1, 1), Says: []api.Fact{f(0, 5, 5, 5), f(1), f(1, -7), f(1, 2), f(1, 2, 0), f(9)}}}}
	want := []api.Fact{f(0, 5, 5, 5), f(1), f(1, -7), f(1, 2), f(1, 2, 0), f(2), f(9)}
	if got, e := Facts(r); !same(got, want) || e != api.OK {
		t.Errorf("Facts = %v %d, want %v", got, e, want)
	}
	many := api.Replica{Has: row(0, 200)}
	for i := range many.Has {
		for n := range 6 {
			many.Has[i].Says = append(many.Has[i].Says, f(0, 100+i*6+n))
		}
	}
	if got, e := Facts(many); len(got) != 1200 || e != api.OK || !same(got[1199], f(0, 1299)) {
		t.Errorf("%d facts, %d", len(got), e)
	}
}

// L2, L4: the longest row, that comes from its end on, is come to with its beginning.
func TestLongRow(t *testing.T) {
	var r api.Replica
	l := row(3, 200)
	for i, u := range slices.Backward(l) {
		x, e := Add(r, u)
		if e != api.OK || i > 0 && (len(x.Has) != 0 || len(x.Waits) != 200-i) {
			t.Fatalf("%v: %s %d", u.Id, told(x), e)
		}
		r = x
	}
	if !same(r, api.Replica{Has: l}) {
		t.Errorf("it is %s", told(r))
	}
}
