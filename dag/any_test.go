package dag

import (
	"fmt"
	"slices"
	"testing"

	"groundwork/api"
	"groundwork/relation"
	"groundwork/wire"
)

// draw numbers for updates at random; the same each time.
type draw uint64

func (d *draw) n(n int) int {
	*d = *d*6364136223846793005 + 1442695040888963407
	return int(uint64(*d) >> 33 % uint64(n))
}

// shuffled: a list in some other order.
func shuffled[T any](d *draw, l []T) []T {
	l = slices.Clone(l)
	for i := range l {
		j := i + d.n(len(l)-i)
		l[i], l[j] = l[j], l[i]
	}
	return l
}

// ahead: less than 0, if an id is ahead of another one.
func ahead(a, b api.Id) int { return a.Author*1000 + a.Number - b.Author*1000 - b.Number }

// ids, rising: these, and some of others.
func (d *draw) ids(from []api.Id, most int, l ...api.Id) []api.Id {
	for range d.n(most + 1) {
		if x := from[d.n(len(from))]; !slices.Contains(l, x) {
			l = append(l, x)
		}
	}
	slices.SortFunc(l, ahead)
	return l
}

// updates with different ids, each right; with wild some hang on what is not there, or on each other in rounds.
func (d *draw) updates(most int, wild bool) []api.Update {
	var l []api.Update
	made := []api.Id{}
	var counts [api.MaxAuthors]int
	for range d.n(most) + 1 {
		a := d.n(api.MaxAuthors)
		counts[a]++
		u := api.Update{Id: id(a, counts[a])}
		from := made
		if wild && d.n(6) == 0 {
			from = append(slices.Clone(made), u.Id, id(d.n(6), 1+d.n(8)))
		}
		if u.Id.Number > 1 {
			u.Parents = []api.Id{id(a, u.Id.Number-1)}
		}
		if len(from) > 0 {
			u.Parents = d.ids(from, 2, u.Parents...)
			u.Takes = d.ids(from, d.n(2))
		}
		for range d.n(3) {
			u.Says = append(u.Says, f(d.n(2), d.n(4)))
		}
		u.Says = relation.Set(u.Says)
		l, made = append(l, u), append(made, u.Id)
	}
	return l
}

// has: by the document's words on what is behind an update: it is had, if all behind it is there, and not it itself.
func has(all []api.Update, u api.Update) bool {
	behind := map[api.Id]bool{}
	var walk func(api.Update) bool
	walk = func(u api.Update) bool {
		for _, x := range slices.Concat(u.Parents, u.Takes) {
			if behind[x] {
				continue
			}
			behind[x] = true
			at := slices.IndexFunc(all, func(v api.Update) bool { return v.Id == x })
			if at < 0 || !walk(all[at]) {
				return false
			}
		}
		return true
	}
	if !walk(u) || behind[u.Id] {
		return false
	}
	for x := range behind {
		at := slices.IndexFunc(all, func(v api.Update) bool { return v.Id == x })
		if !has(all, all[at]) {
			return false
		}
	}
	return true
}

// parted: what is had of updates, and what waits, in order.
func parted(all []api.Update) api.Replica {
	var r api.Replica
	all = slices.Clone(all)
	slices.SortFunc(all, func(a, b api.Update) int { return ahead(a.Id, b.Id) })
	for _, u := range all {
		if has(all, u) {
			r.Has = append(r.Has, u)
		} else {
			r.Waits = append(r.Waits, u)
		}
	}
	return r
}

// heads by hand.
func heads(r api.Replica) []api.Id {
	var l []api.Id
	for _, u := range r.Has {
		if !slices.ContainsFunc(r.Has, func(v api.Update) bool { return slices.Contains(v.Parents, u.Id) }) {
			l = append(l, u.Id)
		}
	}
	return l
}

// facts by hand.
func facts(r api.Replica) []api.Fact {
	var l []api.Fact
	for _, u := range r.Has {
		if !slices.ContainsFunc(r.Has, func(v api.Update) bool { return slices.Contains(v.Takes, u.Id) }) {
			l = relation.Union(l, u.Says)
		}
	}
	return l
}

// L2, L3: any updates, one by one: what is had and waits then, its heads and facts, by the document's words.
func TestAnyUpdates(t *testing.T) {
	d := draw(1)
	waited, had, rest := 0, 0, 0
	for range 150 {
		all := shuffled(&d, d.updates(14, true))
		var r api.Replica
		for i, u := range all {
			x, e := Add(r, u)
			if want := parted(all[:i+1]); e != api.OK || !same(x, want) {
				t.Fatalf("%v: %s %d, want %s", all[:i+1], told(x), e, told(want))
			}
			h, e := Heads(x)
			l, g := Facts(x)
			if e != api.OK || g != api.OK || Check(x) != api.OK || !same(h, heads(x)) || !same(l, facts(x)) {
				t.Fatalf("%v: heads %v %d, facts %v %d; Check %d", x, h, e, l, g, Check(x))
			}
			waited += max(len(x.Has)-len(r.Has)-1, 0)
			r = x
		}
		had += len(r.Has)
		rest += len(r.Waits)
	}
	if waited < 50 || had < 300 || rest < 100 {
		t.Errorf("%d waited, %d had, %d left", waited, had, rest)
	}
}

// L4: in whatever order, and however often, they are added.
func TestAnyOrder(t *testing.T) {
	d := draw(2)
	for range 60 {
		all := d.updates(30, d.n(2) == 0)
		want := parted(all)
		for range 4 {
			var r api.Replica
			for _, u := range shuffled(&d, slices.Concat(all, all[:len(all)/2])) {
				x, e := Add(r, u)
				if e != api.OK {
					t.Fatalf("Add(%s, %v) = %d", told(r), u, e)
				}
				r = x
			}
			if !same(r, want) {
				t.Fatalf("it is %s, and was %s", told(r), told(want))
			}
		}
	}
}

// L4: as many as there is room for, each author talking to the others.
func TestAnyOrderOfMany(t *testing.T) {
	d := draw(3)
	var all []api.Update
	for i := range api.MaxUpdates {
		// From the last author to the first, so that what comes next stands ahead.
		u := api.Update{Id: id(5-i%6, i/6+1)}
		for _, v := range all[max(0, i-6):] {
			u.Parents = append(u.Parents, v.Id)
		}
		slices.SortFunc(u.Parents, ahead)
		u.Takes = u.Parents
		all = append(all, u)
	}
	var first api.Replica
	for i, l := range [][]api.Update{all, shuffled(&d, all), shuffled(&d, all)} {
		var r api.Replica
		for _, u := range l {
			x, e := Add(r, u)
			if e != api.OK {
				t.Fatal(e)
			}
			r = x
		}
		if i == 0 {
			first = r
		}
		if len(r.Has) != api.MaxUpdates || !same(r, first) {
			t.Fatalf("it is %s", told(r))
		}
	}
}

// checked: the document's words, one by one.
func checked(r api.Replica) api.Errno {
	both := slices.Concat(r.Has, r.Waits)
	if len(both) > 200 {
		return api.ErrMany
	}
	for _, u := range both {
		if e := wire.Check(u); e != api.OK {
			return e
		}
	}
	seen := map[api.Id]bool{}
	for i, u := range both {
		before := i > 0 && i != len(r.Has)
		if seen[u.Id] || before && ahead(both[i-1].Id, u.Id) > 0 {
			return api.ErrState
		}
		seen[u.Id] = true
	}
	hung := func(u api.Update) bool {
		for _, x := range slices.Concat(u.Parents, u.Takes) {
			if !slices.ContainsFunc(r.Has, func(v api.Update) bool { return v.Id == x }) {
				return false
			}
		}
		return true
	}
	for _, u := range r.Has {
		if !hung(u) {
			return api.ErrNone
		}
	}
	for _, u := range r.Has {
		if !has(r.Has, u) {
			return api.ErrState
		}
	}
	if slices.ContainsFunc(r.Waits, hung) {
		return api.ErrState
	}
	return api.OK
}

// L1: replicas with something changed, by the document's words.
func TestAnyReplica(t *testing.T) {
	d := draw(4)
	seen := map[api.Errno]int{}
	for range 3000 {
		r := parted(d.updates(8, true))
		for range d.n(3) {
			from, to := &r.Has, &r.Waits
			if d.n(2) == 0 {
				from, to = to, from
			}
			if len(*from) == 0 {
				continue
			}
			at := d.n(len(*from))
			u := (*from)[at]
			switch d.n(5) {
			case 0:
				*from = slices.Delete(slices.Clone(*from), at, at+1)
			case 1: // from the one list to the other
				*from = slices.Delete(slices.Clone(*from), at, at+1)
				*to = append(slices.Clone(*to), u)
				if d.n(4) > 0 {
					slices.SortFunc(*to, order)
				}
			case 2:
				*to = append(slices.Clone(*to), u)
			case 3:
				u.Takes = d.ids([]api.Id{u.Id, (*from)[d.n(len(*from))].Id}, 2)
				(*from)[at] = u
			case 4:
				u.Parents = d.ids([]api.Id{u.Id, (*from)[d.n(len(*from))].Id, id(d.n(7), d.n(3))}, 3)
				(*from)[at] = u
			}
		}
		want := checked(r)
		seen[want]++
		_, e := Heads(r)
		_, g := Facts(r)
		if Check(r) != want || e != want || g != want {
			t.Fatalf("%v: %d %d %d, want %d", r, Check(r), e, g, want)
		}
		if _, e := Add(r, api.Update{Id: id(0, 1)}); e != want {
			t.Fatalf("%v: Add %d, want %d", r, e, want)
		}
	}
	for _, e := range []api.Errno{api.OK, api.ErrRange, api.ErrState, api.ErrNone} {
		if seen[e] < 50 {
			t.Errorf("%d only %d times", e, seen[e])
		}
	}
}

// P3: the same each time, whatever was asked between, and whatever was done with an answer.
func TestSameEachTime(t *testing.T) {
	var first []string
	for range 3 {
		d := draw(5)
		var now []string
		for range 30 {
			all := shuffled(&d, d.updates(12, true))
			r := parted(all[1:])
			x, e := Add(r, all[0])
			h, g := Heads(r)
			l, k := Facts(r)
			now = append(now, fmt.Sprint(Check(r), x, e, h, g, l, k))
			clear(x.Has)
			clear(x.Waits)
			clear(h)
			clear(l)
		}
		if first == nil {
			first = now
		}
		if !slices.Equal(first, now) {
			t.Errorf("answers are %v, were %v", now, first)
		}
	}
}
