package update

import (
	"cmp"
	"fmt"
	"math"
	"testing"

	"groundwork/api"
)

// K1, L1: by Author, then by Number, wild ones too.
func TestOrder(t *testing.T) {
	rising := []api.Id{{Author: math.MinInt, Number: math.MaxInt}, {Author: -1, Number: 9}, {Author: 0, Number: math.MinInt}, {}, {Number: 1}, {Number: 2}, {Number: 10}, {Author: 1, Number: 1}, {Author: 1, Number: math.MaxInt}, {Author: math.MaxInt, Number: math.MinInt}}
	for i, a := range rising {
		for j, b := range rising {
			if got := Order(a, b); got != cmp.Compare(i, j) {
				t.Errorf("Order(%v, %v) = %d", a, b, got)
			}
		}
	}
}

// K1, L1: things rise, if each one stands ahead of the next one.
func TestRise(t *testing.T) {
	for _, c := range []struct {
		l    []int
		want bool
	}{
		{nil, true},
		{[]int{5}, true},
		{[]int{-1, 5}, true},
		{[]int{5, 5}, false},
		{[]int{5, 4}, false},
		{[]int{1, 2, 3, 9}, true},
		{[]int{2, 1, 3, 4}, false},
		{[]int{1, 3, 2, 4}, false},
		{[]int{1, 2, 4, 3}, false},
		{[]int{1, 2, 3, 3}, false},
	} {
		if got := Rise(c.l, cmp.Compare[int]); got != c.want {
			t.Errorf("Rise(%v) = %v", c.l, got)
		}
	}
}

// P2: a copy is the same, and shares no memory.
func TestCopy(t *testing.T) {
	made := func() api.Update {
		return api.Update{Id: api.Id{Author: 3, Number: 2}, Parents: []api.Id{{Author: 3, Number: 1}}, Says: []api.Fact{{Pred: 1, Args: []int{4, 5}}, {Pred: 2}}, Takes: []api.Id{{Author: 1, Number: 1}, {Author: 2, Number: 7}}}
	}
	u := made()
	c := Copy(u)
	if fmt.Sprint(c) != fmt.Sprint(u) {
		t.Errorf("a copy of %v is %v", u, c)
	}
	clear(c.Says[0].Args)
	clear(c.Says)
	clear(c.Parents)
	clear(c.Takes)
	if fmt.Sprint(u) != fmt.Sprint(made()) {
		t.Errorf("it is %v behind a change of its copy", u)
	}
	if none := Copy(api.Update{}); fmt.Sprint(none) != fmt.Sprint(api.Update{}) {
		t.Errorf("a copy of nothing is %v", none)
	}
}

// P2: copies of updates, and of a replica, are the same in order, and share no memory.
func TestCopies(t *testing.T) {
	made := func() api.Replica {
		l := []api.Update{{Id: api.Id{Author: 3, Number: 1}, Says: []api.Fact{{Pred: 1, Args: []int{4, 5}}}}, {Id: api.Id{Author: 2, Number: 2}, Parents: []api.Id{{Author: 2, Number: 1}}}}
		return api.Replica{Has: l, Waits: []api.Update{l[1], l[0]}}
	}
	r := made()
	c := CopyReplica(r)
	if l := Copies(r.Waits); fmt.Sprint(c) != fmt.Sprint(r) || fmt.Sprint(l) != fmt.Sprint(r.Waits) {
		t.Errorf("copies of %v are %v, %v", r, c, l)
	}
	clear(c.Has[0].Says[0].Args)
	clear(c.Has[1].Parents)
	clear(c.Has)
	if fmt.Sprint(r) != fmt.Sprint(made()) || fmt.Sprint(c.Waits) != fmt.Sprint(r.Waits) {
		t.Errorf("they are %v and %v behind a change of a copy", r, c.Waits)
	}
	if none := CopyReplica(api.Replica{}); fmt.Sprint(none) != fmt.Sprint(api.Replica{}) {
		t.Errorf("a copy of nothing is %v", none)
	}
}
