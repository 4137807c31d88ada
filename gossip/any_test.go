package gossip

import (
	"fmt"
	"slices"
	"testing"

	"groundwork/api"
	"groundwork/dag"
)

// draw numbers for updates at random; the same each time.
type draw uint64

func (d *draw) n(n int) int {
	*d = *d*6364136223846793005 + 1442695040888963407
	return int(uint64(*d) >> 33 % uint64(n))
}

// some of a list, in its order.
func some[T any](d *draw, l []T, of int) []T {
	return slices.DeleteFunc(slices.Clone(l), func(T) bool { return d.n(of) > 0 })
}

func ahead(a, b api.Id) int { return a.Author*1000 + a.Number - b.Author*1000 - b.Number }

// updates, each right, that hang on some of those made ahead of them; about half of them say something.
func (d *draw) updates(most int) []api.Update {
	var l []api.Update
	var made []api.Id
	var counts [api.MaxAuthors]int
	for range 1 + d.n(most) {
		a := d.n(api.MaxAuthors)
		counts[a]++
		u := api.Update{Id: id(a, counts[a]), Parents: some(d, made, 6), Takes: some(d, made, 9)}
		u.Parents, u.Takes = u.Parents[:min(5, len(u.Parents))], u.Takes[:min(6, len(u.Takes))]
		if one := id(a, counts[a]-1); one.Number > 0 && !slices.Contains(u.Parents, one) {
			u.Parents = append(u.Parents, one)
		}
		slices.SortFunc(u.Parents, ahead)
		slices.SortFunc(u.Takes, ahead)
		if d.n(2) == 0 {
			u.Says = []api.Fact{{Pred: d.n(4), Args: []int{d.n(9)}}}
		}
		l, made = append(l, u), append(made, u.Id)
	}
	return l
}

// added: a replica with updates, one by one.
func added(t *testing.T, r api.Replica, l []api.Update) api.Replica {
	for _, u := range l {
		x, e := dag.Add(r, u)
		if e != api.OK {
			t.Fatalf("Add(%s, %v) = %d", shown(r), u, e)
		}
		r = x
	}
	return r
}

// behind an id, in updates: by the document's words, once for each update that there is.
func behind(l []api.Update, x api.Id) []api.Id {
	var come []api.Id
	for range l {
		for _, u := range l {
			if u.Id == x || slices.Contains(come, u.Id) {
				come = append(come, u.Parents...)
				come = append(come, u.Takes...)
			}
		}
		slices.SortFunc(come, ahead)
		come = slices.Compact(come)
	}
	return come
}

// left of what a replica has, when heads are told.
func left(r api.Replica, heads []api.Id) []api.Update {
	return slices.DeleteFunc(slices.Clone(r.Has), func(u api.Update) bool {
		return slices.Contains(heads, u.Id) || slices.ContainsFunc(heads, func(h api.Id) bool {
			mine := slices.ContainsFunc(r.Has, func(v api.Update) bool { return v.Id == h })
			return mine && slices.Contains(behind(r.Has, h), u.Id)
		})
	})
}

// M1: of any replicas and any heads, by the document's words.
func TestAnyMissing(t *testing.T) {
	d := draw(1)
	sizes := map[int]int{}
	for range 200 {
		all := d.updates(14)
		r := added(t, api.Replica{}, some(&d, all, 1+d.n(2)))
		for range 4 {
			var heads []api.Id
			for range d.n(4) {
				heads = append(heads, all[d.n(len(all))].Id)
			}
			want := left(r, heads)
			got, e := Missing(r, heads)
			if e != api.OK || !same(got, want) {
				t.Fatalf("Missing(%v, %v) = %s %d, want %s", r, heads, named(got), e, named(want))
			}
			sizes[len(got)]++
		}
	}
	if len(sizes) < 10 || sizes[0] > 500 {
		t.Errorf("so many were missing: %v", sizes)
	}
}

// M2: any two, also with different updates of one id: each adds what the other one, as it was, answers.
func TestAnyRound(t *testing.T) {
	d := draw(2)
	freed, differ := 0, 0
	for range 300 {
		all := d.updates(16)
		a := added(t, api.Replica{}, some(&d, all, 2))
		if d.n(3) == 0 {
			all = d.updates(16)
		}
		b := added(t, api.Replica{}, some(&d, all, 1+d.n(2)))
		x, y, e := Round(a, b)
		headsA, _ := dag.Heads(a)
		headsB, _ := dag.Heads(b)
		toA, toB := left(b, headsA), left(a, headsB)
		wantX, wantY := added(t, a, toA), added(t, b, toB)
		if e != api.OK || !same(x, wantX) || !same(y, wantY) {
			t.Fatalf("Round(%v, %v) = %s, %s, %d, want %s, %s", a, b, shown(x), shown(y), e, shown(wantX), shown(wantY))
		}
		freed += max(len(x.Has)-len(a.Has)-len(toA), 0)
		if !same(x, y) {
			differ++
		}
	}
	if freed < 30 || differ < 50 {
		t.Errorf("%d went to Has with others, %d times the two differ", freed, differ)
	}
}

// has: is just this update among some?
func has(l []api.Update, u api.Update) bool {
	return slices.ContainsFunc(l, func(v api.Update) bool { return same(u, v) })
}

// M3: of two that had no two updates with one id, both have all that one of them had, and lose nothing.
func TestRoundTellsAll(t *testing.T) {
	d := draw(3)
	for range 200 {
		all := d.updates(30)
		a, b := added(t, api.Replica{}, some(&d, all, 2)), added(t, api.Replica{}, some(&d, all, 2))
		x, y, e := Round(a, b)
		if e != api.OK {
			t.Fatal(e)
		}
		for _, u := range slices.Concat(a.Has, b.Has) {
			if !has(x.Has, u) || !has(y.Has, u) {
				t.Fatalf("Round(%s, %s) = %s, %s: without %v", shown(a), shown(b), shown(x), shown(y), u.Id)
			}
		}
		for _, two := range [][]api.Replica{{a, x}, {b, y}} {
			for _, u := range two[0].Waits {
				if !has(two[1].Has, u) && !has(two[1].Waits, u) {
					t.Fatalf("Round(%s, %s) = %s, %s: %v is lost", shown(a), shown(b), shown(x), shown(y), u.Id)
				}
			}
		}
	}
}

// M3: many that had nothing that waits: behind some rounds with one of them, and some more, all are the same.
func TestRoundsOfMany(t *testing.T) {
	d := draw(4)
	for range 20 {
		all := d.updates(40)
		l := make([]api.Replica, 6)
		for i := range l {
			l[i] = api.Replica{Has: added(t, api.Replica{}, some(&d, all, 1+d.n(3))).Has}
		}
		for range 2 {
			for i := range l[1:] {
				x, y, e := Round(l[0], l[i+1])
				if e != api.OK {
					t.Fatal(e)
				}
				l[0], l[i+1] = x, y
			}
		}
		for _, r := range l {
			if !same(r, l[0]) {
				t.Fatalf("%s is not %s", shown(r), shown(l[0]))
			}
		}
	}
}

// P3: the same each time, whatever was asked between, and whatever was done with an answer.
func TestSameEachTime(t *testing.T) {
	var first []string
	for range 3 {
		d := draw(5)
		var now []string
		for range 30 {
			all := d.updates(20)
			a, b := added(t, api.Replica{}, some(&d, all, 2)), added(t, api.Replica{}, some(&d, all, 2))
			heads, _ := dag.Heads(b)
			l, e := Missing(a, heads)
			x, y, g := Round(a, b)
			now = append(now, fmt.Sprint(l, e, x, y, g))
			for _, l := range [][]api.Update{l, x.Has, x.Waits, y.Has, y.Waits} {
				clear(l)
			}
		}
		if first == nil {
			first = now
		}
		if !slices.Equal(first, now) {
			t.Errorf("answers are %v, were %v", now, first)
		}
	}
}
