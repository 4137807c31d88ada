package gossip

import (
	"fmt"
	"math"
	"slices"
	"strings"
	"testing"

	"groundwork/api"
	"groundwork/dag"
)

func id(author, number int) api.Id { return api.Id{Author: author, Number: number} }

// ids of words, as 0.1.
func ids(s string) []api.Id {
	var l []api.Id
	for w := range strings.FieldsSeq(s) {
		var x api.Id
		if _, err := fmt.Sscanf(w, "%d.%d", &x.Author, &x.Number); err != nil {
			panic(s)
		}
		l = append(l, x)
	}
	return l
}

// made: an update of words: its id; with < ahead a parent, with - one that it takes, with + a number of what it says.
func made(s string) api.Update {
	words := strings.Fields(s)
	u := api.Update{Id: ids(words[0])[0]}
	for _, w := range words[1:] {
		switch rest := w[1:]; w[0] {
		case '<':
			u.Parents = append(u.Parents, ids(rest)...)
		case '-':
			u.Takes = append(u.Takes, ids(rest)...)
		default:
			u.Says = append(u.Says, api.Fact{Args: []int{len(rest), int(rest[0])}})
		}
	}
	return u
}

// replica of words: updates with semicolons between; what waits behind a stroke.
func replica(s string) api.Replica {
	var r api.Replica
	has, waits, _ := strings.Cut(s, "|")
	for i, l := range []*[]api.Update{&r.Has, &r.Waits} {
		for w := range strings.SplitSeq([]string{has, waits}[i], ";") {
			if strings.TrimSpace(w) != "" {
				*l = append(*l, made(w))
			}
		}
	}
	return r
}

// named: ids of updates, as words.
func named(l []api.Update) string {
	var words []string
	for _, u := range l {
		words = append(words, fmt.Sprintf("%d.%d", u.Id.Author, u.Id.Number))
	}
	return strings.Join(words, " ")
}

// shown: ids of a replica.
func shown(r api.Replica) string { return strings.TrimSpace(named(r.Has) + " | " + named(r.Waits)) }

// same: is what is told the same, an empty list and none alike?
func same[T any](a, b T) bool { return fmt.Sprint(a) == fmt.Sprint(b) }

// row of an author's updates, each behind the one ahead.
func row(author, n int) []api.Update {
	l := []api.Update{{Id: id(author, 1)}}
	for i := 1; i < n; i++ {
		l = append(l, api.Update{Id: id(author, i+1), Parents: []api.Id{id(author, i)}})
	}
	return l
}

// web of updates: 0.2 is behind 2.1 by a parent; 1.1 and 0.1 are behind it only by what is taken.
const web = "0.1 +a; 0.2 <0.1 +b; 1.1 -0.1; 1.2 <1.1 +c; 2.1 <0.2 -1.1 +d; 3.1 +e; 4.1 <3.1 -1.2; 5.1 | 2.2 <2.1 <3.9; 5.2 <5.1 -4.9"

// M1: of what it has, all but the heads, and what is behind those of them that it has.
func TestMissing(t *testing.T) {
	for _, c := range []struct{ r, heads, want string }{
		{"", "", ""},
		{"", "0.1 3.3", ""},
		{"0.1", "", "0.1"},
		{"0.1", "0.1", ""},
		{"0.1", "0.2 1.1", "0.1"},
		{"0.1; 0.2 <0.1; 0.3 <0.2", "0.1", "0.2 0.3"},
		{"0.1; 0.2 <0.1; 0.3 <0.2", "0.2", "0.3"},
		{"0.1; 0.2 <0.1; 0.3 <0.2", "0.3", ""},
		// By parents and by what is taken, at once and through others.
		{web, "", "0.1 0.2 1.1 1.2 2.1 3.1 4.1 5.1"},
		{web, "0.1", "0.2 1.1 1.2 2.1 3.1 4.1 5.1"},
		{web, "0.2", "1.1 1.2 2.1 3.1 4.1 5.1"},
		{web, "1.1", "0.2 1.2 2.1 3.1 4.1 5.1"},
		{web, "1.2", "0.2 2.1 3.1 4.1 5.1"},
		{web, "2.1", "1.2 3.1 4.1 5.1"},
		{web, "4.1", "0.2 2.1 5.1"},
		{web, "3.1 2.1", "1.2 4.1 5.1"},
		{web, "2.1 4.1 5.1", ""},
		// A head that waits is none that it has: what is behind it is missing all the same.
		{web, "2.2", "0.1 0.2 1.1 1.2 2.1 3.1 4.1 5.1"},
		{web, "5.2 5.1", "0.1 0.2 1.1 1.2 2.1 3.1 4.1"},
		// Not in order, some twice, some that are none's.
		{web, "5.1 0.2 5.1 0.1 0.2", "1.1 1.2 2.1 3.1 4.1"},
		{web, "0.200 2.1 0.0 -7.3 99.99 5.3", "1.2 3.1 4.1 5.1"},
		// It need not stand behind what it hangs on.
		{"0.1 <5.1; 0.2 <0.1; 3.1; 4.1 -3.1; 5.1 <4.1", "0.1", "0.2"},
		{"0.1 <5.1; 0.2 <0.1; 3.1; 4.1 -3.1; 5.1 <4.1", "4.1", "0.1 0.2 5.1"},
	} {
		r := replica(c.r)
		got, e := Missing(r, ids(c.heads))
		if named(got) != c.want || e != api.OK {
			t.Errorf("Missing(%s, %s) = %s %d, want %s", c.r, c.heads, named(got), e, c.want)
		}
		for _, u := range got {
			was := r.Has[slices.IndexFunc(r.Has, func(v api.Update) bool { return v.Id == u.Id })]
			if !same(u, was) {
				t.Errorf("Missing(%s, %s): %v, which was %v", c.r, c.heads, u, was)
			}
		}
	}
}

// wrongs: replicas that are not right, and why.
func wrongs() map[api.Errno]api.Replica {
	return map[api.Errno]api.Replica{
		api.ErrMany:  {Has: make([]api.Update, 150), Waits: make([]api.Update, 51)},
		api.ErrRange: replica("0.1; 6.1"),
		api.ErrNone:  replica("0.1; 0.2 <0.1 -3.1 | 3.1 <3.2"),
		api.ErrState: replica("0.1 | 3.1"),
	}
}

// M1, P1: Check, then too many heads; nothing beside an error.
func TestMissingErrors(t *testing.T) {
	wild := []api.Id{id(math.MinInt, math.MaxInt), id(math.MaxInt, math.MinInt), id(0, 0), id(0, 1)}
	for _, c := range []struct {
		heads []api.Id
		many  bool
	}{
		{nil, false},
		{wild, false},
		{make([]api.Id, 200), false},
		{slices.Repeat(wild, 50), false},
		{make([]api.Id, 201), true},
		{slices.Repeat(wild, 1000), true},
	} {
		want, left := api.OK, "0.1 1.1"
		if slices.Contains(c.heads, id(0, 1)) {
			left = "1.1"
		}
		if c.many {
			want, left = api.ErrMany, ""
		}
		if l, e := Missing(replica("0.1; 1.1"), c.heads); named(l) != left || e != want {
			t.Errorf("%d heads: %s %d, want %s %d", len(c.heads), named(l), e, left, want)
		}
		for want, r := range wrongs() {
			if l, e := Missing(r, c.heads); l != nil || e != want {
				t.Errorf("%d heads: %s %d, want %d", len(c.heads), named(l), e, want)
			}
		}
	}
}

// M1: as long a row as may be, from its end on.
func TestMissingOfMany(t *testing.T) {
	r := api.Replica{Has: row(2, 200)}
	for n := range 201 {
		l, e := Missing(r, []api.Id{id(2, n)})
		if e != api.OK || len(l) != 200-n || n < 200 && l[0].Id != id(2, n+1) {
			t.Fatalf("behind %d: %s %d", n, named(l), e)
		}
	}
}

// M1, P1: updates that hang on each other in more ways than could be gone through one by one.
func TestMissingOfDenseWeb(t *testing.T) {
	var r api.Replica
	for i := range api.MaxUpdates {
		u := api.Update{Id: id(i%6, i/6+1)}
		for k := max(0, i-6); k < i; k++ {
			u.Parents = append(u.Parents, id(k%6, k/6+1))
		}
		slices.SortFunc(u.Parents, ahead)
		u.Takes = u.Parents
		r.Has = append(r.Has, u)
	}
	last := r.Has[len(r.Has)-1].Id
	slices.SortFunc(r.Has, func(u, v api.Update) int { return ahead(u.Id, v.Id) })
	if l, e := Missing(r, []api.Id{last}); len(l) != 0 || e != api.OK {
		t.Errorf("missing: %s %d", named(l), e)
	}
	x, y, e := Round(r, api.Replica{})
	if e != api.OK || !same(x, r) || !same(y, r) {
		t.Errorf("Round: %s, %s, %d", shown(x), shown(y), e)
	}
}

// M2: what both are behind a round.
func TestRound(t *testing.T) {
	for _, c := range []struct{ a, b, x, y string }{
		{"", "", "|", "|"},
		{"0.1", "", "0.1 |", "0.1 |"},
		{"0.1", "0.1", "0.1 |", "0.1 |"},
		{"0.1", "1.1", "0.1 1.1 |", "0.1 1.1 |"},
		{"0.1; 0.2 <0.1", "0.1; 1.1 <0.1", "0.1 0.2 1.1 |", "0.1 0.2 1.1 |"},
		{"0.1 <5.1; 5.1", "0.1 <5.1; 3.1 -0.1; 5.1", "0.1 3.1 5.1 |", "0.1 3.1 5.1 |"},
		{"0.1; 2.1", "0.1; 1.1 -0.1", "0.1 1.1 2.1 |", "0.1 1.1 2.1 |"},
		// What waits is not told.
		{"| 0.1 <1.1", "", "| 0.1", "|"},
		{"| 0.1 <1.1", "| 2.1 <3.1", "| 0.1", "| 2.1"},
		{"| 0.1 <1.1", "2.1 | 0.1 <1.1", "2.1 | 0.1", "2.1 | 0.1"},
		// At once: what goes to Has by the round is not told in it.
		{"| 0.1 <1.1", "1.1", "0.1 1.1 |", "1.1 |"},
		{"1.1", "| 0.1 <1.1", "1.1 |", "0.1 1.1 |"},
		{"1.1 | 0.1 -2.1", "2.1 | 3.1 <1.1", "0.1 1.1 2.1 |", "1.1 2.1 3.1 |"},
		{"| 0.1 <1.1; 4.1 <0.1", "1.1 | 4.1 <0.1", "0.1 1.1 4.1 |", "1.1 | 4.1"},
		// One has what waits with the other one.
		{"| 0.1 <1.1", "0.1 <1.1; 1.1", "0.1 1.1 |", "0.1 1.1 |"},
		{"0.1; 0.2 <0.1; 3.1 <0.2", "| 0.2 <0.1; 5.1 <3.1", "0.1 0.2 3.1 |", "0.1 0.2 3.1 5.1 |"},
	} {
		a, b := replica(c.a), replica(c.b)
		x, y, e := Round(a, b)
		if shown(x) != c.x || shown(y) != c.y || e != api.OK {
			t.Errorf("Round(%s, %s) = %s, %s, %d, want %s, %s", c.a, c.b, shown(x), shown(y), e, c.x, c.y)
		}
		if y, x, e := Round(b, a); shown(x) != c.x || shown(y) != c.y || e != api.OK {
			t.Errorf("Round(%s, %s) = %s, %s, %d, want %s, %s", c.b, c.a, shown(y), shown(x), e, c.y, c.x)
		}
		if dag.Check(x) != api.OK || dag.Check(y) != api.OK {
			t.Errorf("Round(%s, %s): not right: %v, %v", c.a, c.b, x, y)
		}
	}
}

// M2: of two updates with one id each keeps its own, and what hangs on it.
func TestRoundOfTwoWithOneId(t *testing.T) {
	for _, c := range []struct{ a, b, x, y string }{
		{"0.1 +a", "0.1 +b", "0.1 +a", "0.1 +b"},
		{"0.1 +a; 1.1", "0.1 +b; 2.1 <0.1", "0.1 +a; 1.1; 2.1 <0.1", "0.1 +b; 1.1; 2.1 <0.1"},
		// b knows a's head, and what is behind it with b: so 1.1 is not told.
		{"0.1 +a", "0.1 <1.1; 1.1; 3.1", "0.1 +a; 3.1", "0.1 <1.1; 1.1; 3.1"},
		{"| 0.1 <1.1", "0.1 +b; 1.1", "0.1 <1.1; 1.1", "0.1 +b; 1.1"},
		{"| 0.1 <1.1 +a", "0.1 +b; 2.1 <0.1", "| 0.1 <1.1 +a; 2.1 <0.1", "0.1 +b; 2.1 <0.1"},
		{"0.1 <1.1; 1.1", "0.1; 1.1 <0.1", "0.1 <1.1; 1.1", "0.1; 1.1 <0.1"},
	} {
		x, y, e := Round(replica(c.a), replica(c.b))
		if !same(x, replica(c.x)) || !same(y, replica(c.y)) || e != api.OK {
			t.Errorf("Round(%s, %s) = %v, %v, %d", c.a, c.b, x, y, e)
		}
	}
}

// M2, P1: Check of a, then of b, then that there would be too many; nothing beside an error.
func TestRoundErrors(t *testing.T) {
	right := replica("0.1; 0.2 <0.1 | 1.1 <2.1")
	for want, wrong := range wrongs() {
		for other, too := range wrongs() {
			for _, b := range []api.Replica{right, too, {Has: row(5, 200)}} {
				if x, y, e := Round(wrong, b); e != want || !same([]api.Replica{x, y}, make([]api.Replica, 2)) {
					t.Errorf("Round of one that has %d, and of %d: %v, %v, %d", want, other, x, y, e)
				}
			}
		}
		for _, a := range []api.Replica{{}, right, {Has: row(5, 200)}} {
			if x, y, e := Round(a, wrong); e != want || !same([]api.Replica{x, y}, make([]api.Replica, 2)) {
				t.Errorf("Round of %s, and of one that has %d: %v, %v, %d", shown(a), want, x, y, e)
			}
		}
	}
}

// M2: as many as may be, and one more: what waits counts, what both have counts once.
func TestRoundOfMany(t *testing.T) {
	waits := replica("| 4.1 <5.1; 4.2 <4.1").Waits
	for i, c := range []struct {
		a, b api.Replica
		want api.Errno
	}{
		{api.Replica{Has: row(0, 200)}, api.Replica{}, api.OK},
		{api.Replica{Has: row(0, 200)}, api.Replica{Has: row(0, 200)}, api.OK},
		{api.Replica{Has: row(0, 200)}, api.Replica{Has: row(0, 150)}, api.OK},
		{api.Replica{Has: row(0, 200)}, api.Replica{Has: row(1, 1)}, api.ErrMany},
		{api.Replica{Has: row(0, 120)}, api.Replica{Has: row(1, 80)}, api.OK},
		{api.Replica{Has: row(0, 120)}, api.Replica{Has: row(1, 81)}, api.ErrMany},
		{api.Replica{Has: row(0, 120)}, api.Replica{Has: append(row(0, 100), row(1, 80)...)}, api.OK},
		{api.Replica{Has: row(0, 120)}, api.Replica{Has: append(row(0, 100), row(1, 81)...)}, api.ErrMany},
		// Only one of both would have too many.
		{api.Replica{Has: row(0, 198), Waits: waits}, api.Replica{}, api.OK},
		{api.Replica{Has: row(0, 198)}, api.Replica{Waits: waits}, api.OK},
		{api.Replica{Has: row(0, 199)}, api.Replica{Waits: waits}, api.ErrMany},
		{api.Replica{Has: row(0, 197), Waits: waits}, api.Replica{Has: row(1, 1)}, api.OK},
		{api.Replica{Has: row(0, 197), Waits: waits}, api.Replica{Has: row(1, 2)}, api.ErrMany},
		// What waits with one, and comes from the other one, is no new one.
		{api.Replica{Has: row(0, 197), Waits: waits}, api.Replica{Has: replica("4.1 <5.1; 4.2 <4.1; 5.1").Has}, api.OK},
		{api.Replica{Has: row(0, 198), Waits: waits}, api.Replica{Has: replica("4.1 <5.1; 4.2 <4.1; 5.1").Has}, api.ErrMany},
	} {
		for _, two := range [][]api.Replica{{c.a, c.b}, {c.b, c.a}} {
			x, y, e := Round(two[0], two[1])
			if e != c.want || e != api.OK && !same([]api.Replica{x, y}, make([]api.Replica, 2)) {
				t.Errorf("case %d: %s, %s, %d, want %d", i, shown(x), shown(y), e, c.want)
			}
		}
	}
}
