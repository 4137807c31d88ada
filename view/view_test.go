package view

import (
	"fmt"
	"slices"
	"strings"
	"testing"

	"groundwork/api"
	"groundwork/dag"
	"groundwork/scope"
)

func id(author, number int) api.Id { return api.Id{Author: author, Number: number} }

func program(t *testing.T, s string) api.Program {
	p, at, e := scope.Program(s)
	if e != api.OK {
		t.Fatalf("%q: %d at %d", s, e, at)
	}
	return p
}

// fact of a word: a predicate's name, and numbers behind it: way1,2; a name that is none's is a predicate of no program of these tests.
func fact(p api.Program, word string) api.Fact {
	name := strings.TrimRight(word, "-,0123456789")
	f := api.Fact{Pred: slices.Index(p.Names, name)}
	if f.Pred < 0 {
		f.Pred = api.MaxPreds - 1
	}
	if word != name {
		for n := range strings.SplitSeq(word[len(name):], ",") {
			var k int
			if _, err := fmt.Sscan(n, &k); err != nil {
				panic(word)
			}
			f.Args = append(f.Args, k)
		}
	}
	return f
}

// shown: facts as words.
func shown(p api.Program, l []api.Fact) string {
	var words []string
	for _, f := range l {
		words = append(words, p.Names[f.Pred]+strings.ReplaceAll(strings.Trim(fmt.Sprint(f.Args), "[]"), " ", ","))
	}
	return strings.Join(words, " ")
}

// shownChanges: changes as words: what came, a stroke, what went; semicolons between.
func shownChanges(p api.Program, l []api.Change) string {
	var words []string
	for _, c := range l {
		words = append(words, strings.TrimSpace(shown(p, c.Came)+" | "+shown(p, c.Went)))
	}
	return strings.Join(words, "; ")
}

// updates of words, with semicolons between: an id, as 0.1; with < ahead a parent, with - one that it takes; facts.
func updates(p api.Program, s string) []api.Update {
	var l []api.Update
	for text := range strings.SplitSeq(s, ";") {
		words := strings.Fields(text)
		if len(words) == 0 {
			continue
		}
		var u api.Update
		for i, w := range words {
			var x api.Id
			fmt.Sscanf(strings.TrimLeft(w, "<-"), "%d.%d", &x.Author, &x.Number)
			switch {
			case i == 0:
				u.Id = x
			case w[0] == '<':
				u.Parents = append(u.Parents, x)
			case w[0] == '-':
				u.Takes = append(u.Takes, x)
			default:
				u.Says = append(u.Says, fact(p, w))
			}
		}
		l = append(l, u)
	}
	return l
}

// replica of words: what waits behind a stroke.
func replica(p api.Program, s string) api.Replica {
	has, waits, _ := strings.Cut(s, "|")
	return api.Replica{Has: updates(p, has), Waits: updates(p, waits)}
}

// ids of a replica.
func ids(r api.Replica) string {
	var words []string
	for _, l := range [][]api.Update{r.Has, r.Waits} {
		for _, u := range l {
			words = append(words, fmt.Sprintf("%d.%d", u.Id.Author, u.Id.Number))
		}
		words = append(words, "|")
	}
	return strings.Join(words[:len(words)-1], " ")
}

// same: is what is told the same, an empty list and none alike?
func same[T any](a, b T) bool { return fmt.Sprint(a) == fmt.Sprint(b) }

// roads of the document's example; that there is a toll is not in it, so that it may be said, and taken back.
const roads = `road(1, 2). road(2, 3). road(3, 1).
way(X, Y) :- road(X, Y), not toll(Y).
way(X, Z) :- way(X, Y), road(Y, Z), not toll(Z).
out(X, count Y) :- way(X, Y).
far(X, N) :- out(X, M), M + 1 = N, N < 3.`

// N1, N2: the document's example.
func TestExample(t *testing.T) {
	p := program(t, roads)
	r := replica(p, "0.1 toll2")
	m, e := Open(p, r)
	if want := "road1,2 road2,3 road3,1 way2,1 way2,3 way3,1 toll2 out2,2 out3,1 far3,2"; shown(p, m) != want || e != api.OK {
		t.Errorf("Open: %s %d, want %s", shown(p, m), e, want)
	}
	x, c, e := Deliver(p, r, updates(p, "1.1 <0.1 -0.1"))
	want := "way1,1 way1,2 way1,3 way2,2 way3,2 way3,3 out1,3 out2,3 out3,3 | toll2 out2,2 out3,1 far3,2"
	if shownChanges(p, c) != want || ids(x) != "0.1 1.1 |" || e != api.OK {
		t.Errorf("Deliver: %s, %s, %d, want %s", ids(x), shownChanges(p, c), e, want)
	}
}

// both: a model with what is given, and with what is not.
const both = "a(X) :- b(X), not c(X). n(count X) :- a(X). z() :- not c(7)."

// N1: the model of what a replica has, says, and has not taken back; what is not right for the program is left out.
func TestOpen(t *testing.T) {
	p := program(t, both)
	for _, c := range []struct{ r, want string }{
		{"", "z"},
		{"0.1", "z"},
		{"0.1 b1 b2", "a1 a2 b1 b2 n2 z"},
		{"0.1 b1 b2; 1.1 c2", "a1 b1 b2 c2 n1 z"},
		{"0.1 b1 b2; 1.1 b2 b3 c7", "a1 a2 a3 b1 b2 b3 c7 n3"},
		{"0.1 b1 b2; 1.1 <0.1 -0.1 b3", "a3 b3 n1 z"},
		{"0.1 b1 b2; 1.1 -0.1; 2.1 b2", "a2 b2 n1 z"},
		// What follows may be given.
		{"0.1 a9 n5", "a9 n1 n5 z"},
		{"0.1 z c7", "c7 z"},
		// What waits says nothing, and takes nothing back.
		{"0.1 b1 | 1.1 <2.1 b2", "a1 b1 n1 z"},
		{"0.1 b1 | 1.1 <2.1 -0.1", "a1 b1 n1 z"},
		// No predicate of the program, or not as many numbers.
		{"0.1 b1 none none1 none1,2", "a1 b1 n1 z"},
		{"0.1 b b1 b1,2 b1,2,3", "a1 b1 n1 z"},
		{"0.1 a n z4", "z"},
		{"0.1 c c7,7", "z"},
		{"0.1 none", "z"},
		{"0.1 b1000000 c-1000000", "a1000000 b1000000 c-1000000 n1 z"},
	} {
		r := replica(p, c.r)
		for i := range r.Has {
			slices.SortFunc(r.Has[i].Says, func(a, b api.Fact) int {
				return (a.Pred-b.Pred)*10 + slices.Compare(a.Args, b.Args)
			})
		}
		if m, e := Open(p, r); shown(p, m) != c.want || e != api.OK {
			t.Errorf("Open(%s) = %s %d, want %s", c.r, shown(p, m), e, c.want)
		}
	}
	if m, e := Open(api.Program{}, replica(p, "0.1 b1 c2")); len(m) != 0 || e != api.OK {
		t.Errorf("Open of no program: %v %d", m, e)
	}
}

// many: updates of an author, from one number on, that say six facts each.
func many(p api.Program, author, n int, name string) []api.Update {
	var l []api.Update
	for i := range n {
		u := api.Update{Id: id(author, i+1)}
		if i > 0 {
			u.Parents = []api.Id{id(author, i)}
		}
		for k := range 6 {
			u.Says = append(u.Says, fact(p, fmt.Sprint(name, 100*author+10*i+k)))
		}
		l = append(l, u)
	}
	return l
}

// N1: as many facts as may be: those that are left out don't count, nor does one that is said twice.
func TestOpenOfMany(t *testing.T) {
	p := program(t, "q(-2) :- q(-1).")
	ten := many(p, 0, 10, "q")
	for i, c := range []struct {
		l    []api.Update
		want api.Errno
	}{
		{ten, api.OK},
		{slices.Concat(ten, updates(p, "1.1 q100 r5")), api.ErrMany},
		{slices.Concat(ten, updates(p, "1.1 q5 q15 q25")), api.OK},
		{slices.Concat(ten, updates(p, "1.1 q101; 2.1 -1.1")), api.OK},
		{slices.Concat(ten, updates(p, "1.1 q101; 2.1 -0.10")), api.OK},
		// With what follows there are too many.
		{slices.Concat(ten, updates(p, "1.1 q-1; 2.1 -0.10 q90 q91 q92 q93 q94")), api.ErrMany},
		{slices.Concat(ten, updates(p, "1.1 q-1; 2.1 -0.10 q90 q91 q92 q93")), api.OK},
		{slices.Concat(ten, many(p, 1, 150, "r")), api.OK},
	} {
		m, e := Open(p, api.Replica{Has: c.l})
		if e != c.want || e == api.OK && len(m) < 54 || e != api.OK && m != nil {
			t.Errorf("case %d: %d facts, %d, want %d", i, len(m), e, c.want)
		}
	}
}

// fault: what makes a program, a replica, or updates wrong, and how it is told.
type fault struct {
	spoil func(*handed)
	want  api.Errno
}

// handed: what Deliver is; Open is not handed the updates.
type handed struct {
	p api.Program
	r api.Replica
	l []api.Update
}

func handedRight(t *testing.T) handed {
	p := program(t, both)
	return handed{p, replica(p, "0.1 b1; 1.1 <0.1 b2 | 2.1 <3.1"), updates(p, "4.1 b4; 3.1 b3; 3.2 <3.1 -4.1")}
}

// faults of what Open is handed, in the order in which the document names them; each leaves whatever others spoil as wrong as it was.
func faults() []fault {
	return []fault{
		{func(h *handed) { h.p.Names[0] = "N" }, api.ErrForm},
		{func(h *handed) { h.p.Rules[2].Terms = make([]api.Term, 1) }, api.ErrForm},
		{func(h *handed) { h.r.Has = append(h.r.Has, api.Update{}) }, api.ErrRange},
		{func(h *handed) { h.r.Waits = append(h.r.Waits, updates(h.p, "2.2")...) }, api.ErrNone},
		{func(h *handed) { h.r.Has[1].Parents = []api.Id{id(5, 5)} }, api.ErrNone},
		// That there are no levels comes behind the replica, though it is told by the program alone.
		{func(h *handed) { h.p.Rules[2].Body[0].Pred, h.p.Rules[2].Body[0].Terms = h.p.Rules[2].Pred, nil }, api.ErrState},
		{func(h *handed) { h.r.Has = slices.Concat(many(h.p, 0, 11, "b"), h.r.Has[1:]) }, api.ErrMany},
	}
}

// N1, N2, P1: of two errors the one that is named first, ahead of all that is wrong with updates; nothing beside it.
func TestErrorOrder(t *testing.T) {
	for i, first := range faults() {
		for j, then := range faults()[i:] {
			h := handedRight(t)
			if _, _, e := Deliver(h.p, h.r, h.l); e != api.OK {
				t.Fatal(e)
			}
			then.spoil(&h)
			if j > 0 {
				first.spoil(&h)
			}
			m, e := Open(h.p, h.r)
			if m != nil || e != first.want {
				t.Errorf("faults %d and %d: Open %v %d, want %d", i, i+j, m, e, first.want)
			}
			for _, l := range [][]api.Update{nil, h.l, {{}}, make([]api.Update, 201)} {
				x, c, e := Deliver(h.p, h.r, l)
				if e != first.want || c != nil || !same(x, api.Replica{}) {
					t.Errorf("faults %d and %d: Deliver %v %v %d, want %d", i, i+j, x, c, e, first.want)
				}
			}
		}
	}
}

// N2: what comes and goes by each update.
func TestDeliver(t *testing.T) {
	p := program(t, both)
	for _, c := range []struct{ r, l, x, want string }{
		{"", "", "|", ""},
		{"0.1 b1 | 1.1 <2.1", "", "0.1 | 1.1", ""},
		{"", "0.1 b1", "0.1 |", "a1 b1 n1 |"},
		{"", "0.1 b1; 1.1 b2", "0.1 1.1 |", "a1 b1 n1 |; a2 b2 n2 | n1"},
		{"", "0.1 b1; 1.1 b1", "0.1 1.1 |", "a1 b1 n1 |; |"},
		{"0.1 b1 b2", "1.1 c2 c7", "0.1 1.1 |", "c2 c7 n1 | a2 n2 z"},
		{"0.1 b1 b2", "1.1 -0.1", "0.1 1.1 |", "| a1 a2 b1 b2 n2"},
		{"0.1 b1 b2", "1.1 -0.1 b2 b3", "0.1 1.1 |", "a3 b3 | a1 b1"},
		// What is taken, and said again in it, stays.
		{"0.1 b1", "0.2 <0.1 -0.1 b1", "0.1 0.2 |", "|"},
		{"0.1 b1", "1.1 -0.1; 2.1 b1; 3.1 -2.1", "0.1 1.1 2.1 3.1 |", "| a1 b1 n1; a1 b1 n1 |; | a1 b1 n1"},
		// One that is there, though it says something else.
		{"0.1 b1", "0.1 b1", "0.1 |", "|"},
		{"0.1 b1", "0.1 b2", "0.1 |", "|"},
		{"0.1 b1 | 1.1 <2.1", "1.1 b2; 0.1 -5.1", "0.1 | 1.1", "|; |"},
		// One that waits, till what it waits for comes; then all at once.
		{"", "0.1 <1.1 b1", "| 0.1", "|"},
		{"", "0.1 <1.1 b1; 1.1 b2", "0.1 1.1 |", "|; a1 a2 b1 b2 n2 |"},
		{"0.1 b1 | 0.2 <0.1 <1.1 -0.1; 2.1 <0.2 b3", "3.1 b4; 1.1 b2", "0.1 0.2 1.1 2.1 3.1 |", "a4 b4 n2 | n1; a2 a3 b2 b3 n3 | a1 b1 n2"},
		{"| 0.1 <1.1 b1; 1.1 -2.1", "2.1 b1", "0.1 1.1 2.1 |", "a1 b1 n1 |"},
		// What is not right for the program comes to nothing.
		{"", "0.1 b1 none; 1.1 none; 2.1 z5", "0.1 1.1 2.1 |", "a1 b1 n1 |; |; |"},
		{"0.1 none1 none2", "1.1 -0.1 b1,2", "0.1 1.1 |", "|"},
		// What was given follows, or follows no more.
		{"0.1 a1", "1.1 b1; 2.1 -0.1; 3.1 -1.1", "0.1 1.1 2.1 3.1 |", "b1 |; |; | a1 b1 n1"},
	} {
		r, l := replica(p, c.r), updates(p, c.l)
		x, changes, e := Deliver(p, r, l)
		if ids(x) != c.x || shownChanges(p, changes) != c.want || e != api.OK {
			t.Errorf("Deliver(%s, %s) = %s, %s, %d, want %s, %s", c.r, c.l, ids(x), shownChanges(p, changes), e, c.x, c.want)
		}
		for _, u := range l {
			r, _ = dag.Add(r, u)
		}
		if !same(x, r) {
			t.Errorf("Deliver(%s, %s) = %v, want %v", c.r, c.l, x, r)
		}
	}
}

// N2, P1: of the first update that has some: those of Add, then those of Open; nothing is delivered then.
func TestDeliverErrors(t *testing.T) {
	p := program(t, "q(-2) :- q(-1).")
	nine := api.Replica{Has: many(p, 0, 9, "q")}
	full := api.Replica{Has: many(p, 5, 200, "none")}
	for i, c := range []struct {
		r    api.Replica
		l    string
		want api.Errno
	}{
		{nine, "1.1 q101", api.OK},
		{nine, "1.0", api.ErrRange},
		{nine, "1.1 q101; 1.2", api.ErrNone},
		{nine, "1.1 q101; 1.2 <1.1 q3 q2; 6.1", api.ErrState},
		{nine, "1.1 q101; 6.1; 1.2", api.ErrRange},
		// A wrong one, though one with its id is there.
		{nine, "0.9; 6.1", api.ErrNone},
		// As many facts as may be, and one more.
		{nine, "1.1 q101 q102 q103 q104 q105 q106", api.OK},
		{nine, "1.1 q101 q102 q103 q104 q105 q106; 2.1 q101 q201", api.ErrMany},
		{nine, "1.1 q101 q102 q103 q104 q105 q106; 2.1 -0.9 q201", api.OK},
		{nine, "1.1 q101 q102 q103 q104 q105 q106; 2.1 q201; 3.1 -1.1", api.ErrMany},
		{nine, "1.1 q101 q102 q103 q104 q105 q106; 2.1 q201; 6.1", api.ErrMany},
		{nine, "1.1 q101 q102 q103 q104 q105 q106; 6.1; 2.1 q201", api.ErrRange},
		// By what follows.
		{nine, "1.1 q101 q102 q103 q104; 2.1 q-1", api.OK},
		{nine, "1.1 q101 q102 q103 q104; 2.1 q-1; 3.1 q301", api.ErrMany},
		{nine, "1.1 q101 q102 q103 q104 q105; 2.1 q-1", api.ErrMany},
		// By one that waited, when it goes to Has.
		{nine, "1.1 <2.1 q101 q102 q103 q104 q105 q106", api.OK},
		{nine, "1.1 <2.1 q101 q102 q103 q104 q105 q106; 2.1", api.OK},
		{nine, "1.1 <2.1 q101 q102 q103 q104 q105 q106; 2.1 q201", api.ErrMany},
		// As many updates as may be.
		{full, "5.200 <5.199", api.OK},
		{full, "5.1; 4.1", api.ErrMany},
		{full, "5.1; 4.0; 4.1", api.ErrRange},
	} {
		l := updates(p, c.l)
		x, changes, e := Deliver(p, c.r, l)
		if e != c.want || e == api.OK && len(changes) != len(l) || e != api.OK && (changes != nil || !same(x, api.Replica{})) {
			t.Errorf("case %d: %s, %v, %d, want %d", i, ids(x), changes, e, c.want)
		}
	}
}

// N2: as many updates as may be, and one more, whatever they are.
func TestDeliverMany(t *testing.T) {
	p := program(t, both)
	l := many(p, 3, 200, "none")
	l[7].Says = updates(p, "0.1 b1")[0].Says
	for _, c := range []struct {
		l    []api.Update
		want api.Errno
	}{
		{l, api.OK},
		{slices.Repeat(l[:1], 200), api.OK},
		{slices.Repeat(l[:1], 201), api.ErrMany},
		{make([]api.Update, 200), api.ErrRange},
		{make([]api.Update, 201), api.ErrMany},
		{make([]api.Update, 100000), api.ErrMany},
		{append(slices.Clone(l), l[0]), api.ErrMany},
	} {
		x, changes, e := Deliver(p, api.Replica{}, c.l)
		if e != c.want || e == api.OK && (len(changes) != 200 || len(x.Has) > 200) || e != api.OK && (changes != nil || !same(x, api.Replica{})) {
			t.Errorf("%d updates: %s, %d changes, %d, want %d", len(c.l), ids(x), len(changes), e, c.want)
		}
	}
	_, changes, _ := Deliver(p, api.Replica{}, l)
	if got, want := shownChanges(p, changes), strings.Repeat("|; ", 7)+"a1 b1 n1 |"+strings.Repeat("; |", 192); got != want {
		t.Errorf("changes are %s", got)
	}
}
