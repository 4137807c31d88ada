package wire

import (
	"fmt"
	"math"
	"slices"
	"strings"
	"testing"

	"groundwork/api"
)

func id(author, number int) api.Id { return api.Id{Author: author, Number: number} }

func ids(l ...api.Id) []api.Id { return l }

func f(pred int, args ...int) api.Fact { return api.Fact{Pred: pred, Args: args} }

func facts(l ...api.Fact) []api.Fact { return l }

// row of ids of an author, from his first one on.
func row(author, n int) []api.Id {
	var l []api.Id
	for i := range n {
		l = append(l, id(author, i+1))
	}
	return l
}

// said: facts of a predicate, each with one number, rising.
func said(n int) []api.Fact {
	var l []api.Fact
	for i := range n {
		l = append(l, f(0, i))
	}
	return l
}

// same: are updates the same, an empty list and none alike?
func same(u, v api.Update) bool { return fmt.Sprint(u) == fmt.Sprint(v) }

// K1: who made it, and which one it is, here and in lists of ids.
func TestCheckIds(t *testing.T) {
	for _, c := range []struct {
		id    api.Id
		right bool
	}{
		{id(0, 1), true},
		{id(5, 1), true},
		{id(0, 200), true},
		{id(5, 200), true},
		{id(6, 1), false},
		{id(-1, 1), false},
		{id(0, 0), false},
		{id(0, -1), false},
		{id(0, 201), false},
		{id(255, 1), false},
		{id(256, 1), false},
		{id(0, 257), false},
		{id(0, 65537), false},
		{id(math.MinInt, 1), false},
		{id(math.MaxInt, 1), false},
		{id(0, math.MinInt), false},
		{id(0, math.MaxInt), false},
	} {
		want := api.ErrRange
		if c.right {
			want = api.OK
		}
		u := api.Update{Id: c.id}
		if c.id.Number > 1 {
			u.Parents = ids(id(c.id.Author, c.id.Number-1))
		}
		for where, u := range map[string]api.Update{"Id": u, "Parents": {Id: id(3, 1), Parents: ids(c.id)}, "Takes": {Id: id(3, 1), Takes: ids(c.id)}} {
			if e := Check(u); e != want {
				t.Errorf("Check with %v as %s: %d, want %d", c.id, where, e, want)
			}
		}
	}
}

// K1: how many there may be, and one more.
func TestCheckMany(t *testing.T) {
	for _, c := range []struct {
		u    api.Update
		want api.Errno
	}{
		{api.Update{Id: id(0, 1), Parents: row(1, 6), Says: said(6), Takes: row(2, 6)}, api.OK},
		{api.Update{Id: id(0, 1), Parents: row(1, 7)}, api.ErrMany},
		{api.Update{Id: id(0, 1), Says: said(7)}, api.ErrMany},
		{api.Update{Id: id(0, 1), Takes: row(1, 7)}, api.ErrMany},
		{api.Update{Id: id(0, 1), Parents: make([]api.Id, 100000)}, api.ErrMany},
		{api.Update{Id: id(0, 1), Says: make([]api.Fact, 256)}, api.ErrMany},
		{api.Update{Id: id(0, 1), Takes: make([]api.Id, 262)}, api.ErrMany},
	} {
		if e := Check(c.u); e != c.want {
			t.Errorf("Check(%v) = %d, want %d", c.u.Id, e, c.want)
		}
	}
}

// K1: Parents and Takes rise, by Author first; each once.
func TestCheckRise(t *testing.T) {
	for _, c := range []struct {
		l     []api.Id
		rises bool
	}{
		{nil, true},
		{ids(id(1, 2)), true},
		{ids(id(1, 2), id(1, 3)), true},
		{ids(id(1, 200), id(2, 1)), true},
		{ids(id(0, 9), id(1, 7), id(1, 8), id(4, 1), id(5, 1)), true},
		{ids(id(1, 2), id(1, 2)), false},
		{ids(id(1, 3), id(1, 2)), false},
		{ids(id(2, 1), id(1, 200)), false},
		{ids(id(2, 1), id(1, 1)), false},
		{ids(id(0, 1), id(1, 1), id(1, 1)), false},
		{ids(id(0, 1), id(1, 1), id(0, 2)), false},
	} {
		want := api.ErrState
		if c.rises {
			want = api.OK
		}
		parents, takes := Check(api.Update{Id: id(0, 1), Parents: c.l}), Check(api.Update{Id: id(0, 1), Takes: c.l})
		if parents != want || takes != want {
			t.Errorf("Check with %v: %d %d, want %d", c.l, parents, takes, want)
		}
	}
}

// K1: its author's one ahead is a parent; what is taken is none.
func TestCheckAhead(t *testing.T) {
	for _, c := range []struct {
		id      api.Id
		parents []api.Id
		want    api.Errno
	}{
		{id(1, 1), nil, api.OK},
		{id(1, 1), ids(id(1, 1)), api.OK},
		{id(1, 1), ids(id(1, 9)), api.OK},
		{id(1, 2), nil, api.ErrNone},
		{id(1, 2), ids(id(1, 1)), api.OK},
		{id(1, 2), ids(id(0, 1)), api.ErrNone},
		{id(1, 2), ids(id(0, 1), id(2, 1)), api.ErrNone},
		{id(1, 2), ids(id(1, 2)), api.ErrNone},
		{id(1, 3), ids(id(1, 1)), api.ErrNone},
		{id(1, 3), ids(id(1, 1), id(1, 2)), api.OK},
		{id(1, 3), ids(id(0, 2), id(1, 2), id(2, 2)), api.OK},
		{id(5, 200), ids(id(5, 199)), api.OK},
		{id(5, 200), ids(id(5, 198), id(5, 200)), api.ErrNone},
	} {
		if e := Check(api.Update{Id: c.id, Parents: c.parents, Takes: row(1, 3)}); e != c.want {
			t.Errorf("Check of %v with %v: %d, want %d", c.id, c.parents, e, c.want)
		}
	}
}

// K1: what is said is right for some program, and a set.
func TestCheckSays(t *testing.T) {
	for _, c := range []struct {
		says []api.Fact
		want api.Errno
	}{
		{nil, api.OK},
		{facts(f(0)), api.OK},
		{facts(f(9, 1, 2, 3)), api.OK},
		{facts(f(10)), api.ErrRange},
		{facts(f(-1)), api.ErrRange},
		{facts(f(math.MinInt)), api.ErrRange},
		{facts(f(math.MaxInt)), api.ErrRange},
		{facts(f(256)), api.ErrRange},
		{facts(f(0, 1, 2, 3, 4)), api.ErrRange},
		{facts(f(0, make([]int, 100000)...)), api.ErrRange},
		{facts(f(0, 1000000, -1000000)), api.OK},
		{facts(f(0, 1000001)), api.ErrRange},
		{facts(f(0, 0, 0, 1000001)), api.ErrRange},
		{facts(f(0, -1000001)), api.ErrRange},
		{facts(f(0, 1<<32+1)), api.ErrRange},
		{facts(f(0, math.MinInt)), api.ErrRange},
		{facts(f(0, math.MaxInt)), api.ErrRange},
		{facts(f(0), f(10)), api.ErrRange},
		// Numbers of terms need not be the same.
		{facts(f(1), f(1, 1), f(1, 1, 1), f(1, 1, 2), f(1, 2), f(2)), api.OK},
		{facts(f(1, -5), f(1, 4)), api.OK},
		{facts(f(1), f(1)), api.ErrState},
		{facts(f(1), api.Fact{Pred: 1, Args: []int{}}), api.ErrState},
		{facts(f(1, 2, 3), f(1, 2, 3)), api.ErrState},
		{facts(f(1), f(0)), api.ErrState},
		{facts(f(1, 1), f(1)), api.ErrState},
		{facts(f(1, 4), f(1, -5)), api.ErrState},
		{facts(f(1, 1, 2), f(1, 1, 1)), api.ErrState},
		{facts(f(0), f(2), f(1)), api.ErrState},
	} {
		if e := Check(api.Update{Id: id(0, 1), Says: c.says}); e != c.want {
			t.Errorf("Check with %v: %d, want %d", c.says, e, c.want)
		}
	}
}

// fault: what makes an update wrong, and how it is told.
type fault struct {
	spoil func(*api.Update)
	want  api.Errno
}

// faults in the order in which the document names them; each leaves whatever others spoil as wrong as it was.
func faults() []fault {
	return []fault{
		{func(u *api.Update) { u.Id.Author = 6 }, api.ErrRange},
		{func(u *api.Update) { u.Takes = append(row(0, 6), u.Takes...) }, api.ErrMany},
		{func(u *api.Update) { u.Says = append(u.Says, said(6)...) }, api.ErrMany},
		{func(u *api.Update) { u.Parents = append(u.Parents, id(5, 201)) }, api.ErrRange},
		{func(u *api.Update) { u.Takes = append(u.Takes, id(6, 1)) }, api.ErrRange},
		{func(u *api.Update) { u.Parents = append(ids(id(4, 9)), u.Parents...) }, api.ErrState},
		{func(u *api.Update) { u.Takes = append(ids(id(4, 9)), u.Takes...) }, api.ErrState},
		{func(u *api.Update) { u.Id.Number = 7 }, api.ErrNone},
		{func(u *api.Update) { u.Says = append(u.Says, f(12, 1)) }, api.ErrRange},
		{func(u *api.Update) { u.Says = append(facts(f(9)), u.Says...) }, api.ErrState},
	}
}

// K1, P1: of two errors the one that is named first; Encode has it too, and nothing beside it.
func TestErrorOrder(t *testing.T) {
	for i, first := range faults() {
		for j, then := range faults()[i:] {
			u := api.Update{Id: id(1, 1), Parents: ids(id(2, 3)), Says: facts(f(3)), Takes: ids(id(2, 4))}
			if e := Check(u); e != api.OK {
				t.Fatal(e)
			}
			first.spoil(&u)
			if j > 0 {
				then.spoil(&u)
			}
			s, e := Encode(u)
			if Check(u) != first.want || e != first.want || s != "" {
				t.Errorf("faults %d and %d: Check %d, Encode %q %d, want %d", i, i+j, Check(u), s, e, first.want)
			}
		}
	}
}

// told: bytes of words: numbers up to 255.
func told(t *testing.T, words string) string {
	var b []byte
	for _, w := range strings.Fields(words) {
		var n byte
		if _, err := fmt.Sscan(w, &n); err != nil {
			t.Fatal(err)
		}
		b = append(b, n)
	}
	return string(b)
}

// K2: bytes by hand, there and back.
func TestBytes(t *testing.T) {
	for _, c := range []struct {
		u    api.Update
		want string
	}{
		{api.Update{Id: id(0, 1)}, "0  1 0  0  0  0"},
		{api.Update{Id: id(5, 1)}, "5  1 0  0  0  0"},
		{api.Update{Id: id(5, 200), Parents: ids(id(5, 199))}, "5  200 0  1  5 199 0  0  0"},
		{api.Update{Id: id(0, 1), Parents: ids(id(1, 2), id(3, 4))}, "0  1 0  2  1 2 0  3 4 0  0  0"},
		{api.Update{Id: id(0, 1), Takes: ids(id(1, 2), id(3, 4))}, "0  1 0  0  0  2  1 2 0  3 4 0"},
		{api.Update{Id: id(0, 1), Says: facts(f(9))}, "0  1 0  0  1  9 0  0"},
		{api.Update{Id: id(0, 1), Says: facts(f(2, 3, 4), f(3, 5))}, "0  1 0  0  2  2 2  3 0 0 0  4 0 0 0  3 1  5 0 0 0  0"},
		{api.Update{Id: id(0, 1), Says: facts(f(0, 0, 255, 256))}, "0  1 0  0  1  0 3  0 0 0 0  255 0 0 0  0 1 0 0  0"},
		{api.Update{Id: id(0, 1), Says: facts(f(0, 65535, 65536, 1000000))}, "0  1 0  0  1  0 3  255 255 0 0  0 0 1 0  64 66 15 0  0"},
		{api.Update{Id: id(0, 1), Says: facts(f(0, -1, -256, -257))}, "0  1 0  0  1  0 3  255 255 255 255  0 255 255 255  255 254 255 255  0"},
		{api.Update{Id: id(0, 1), Says: facts(f(0, -65536, -1000000))}, "0  1 0  0  1  0 2  0 0 255 255  192 189 240 255  0"},
		{api.Update{Id: id(1, 2), Parents: ids(id(0, 7), id(1, 1)), Says: facts(f(4), f(5, -2)), Takes: ids(id(2, 100))}, "1  2 0  2  0 7 0  1 1 0  2  4 0  5 1  254 255 255 255  1  2 100 0"},
	} {
		want := told(t, c.want)
		if s, e := Encode(c.u); s != want || e != api.OK {
			t.Errorf("Encode(%v) = %q %d, want %q", c.u, s, e, want)
		}
		if u, e := Decode(want); !same(u, c.u) || e != api.OK {
			t.Errorf("Decode(%q) = %v %d, want %v", want, u, e, c.u)
		}
	}
}

// K2, P1: bytes that are no update's, and those of one that is wrong; nothing beside the error.
func TestDecodeErrors(t *testing.T) {
	ones := func(n int) string { return strings.Repeat("1 0 0 0 ", n) }
	for _, c := range []struct {
		words string
		want  api.Errno
	}{
		{"", api.ErrForm},
		{"0", api.ErrForm},
		{"0  1 0  0  0", api.ErrForm},
		{"0  1 0  0  0  0", api.OK},
		{"0  1 0  0  0  0  0", api.ErrForm},
		{"0  1 0  0  0  0  0  1 0  0  0  0", api.ErrForm},
		{"0  1 0  0  0  1  0", api.ErrForm},
		{"0  1 0  0  0  1  0 1", api.ErrForm},
		{"0  1 0  0  0  1  0 1 0", api.OK},
		{"0  1 0  0  1  3 1  0 0 0", api.ErrForm},
		{"0  1 0  0  1  3 1  0 0 0 0", api.ErrForm},
		{"0  1 0  0  1  3 1  0 0 0 0  0", api.OK},
		{"0  1 0  0  1  3 2  0 0 0 0  0", api.ErrForm},
		{"0  1 0  255  0  0", api.ErrForm},
		{"0  1 0  0  255  0", api.ErrForm},
		{"0  1 0  0  0  255", api.ErrForm},
		{"0  1 0  0  255  255 255 255 255 255 255", api.ErrForm},
		// A number that is too great can't be hidden in the greater byte.
		{"0  1 1  0  0  0", api.ErrRange},
		{"0  1 0  1  1 1 1  0  0", api.ErrRange},
		{"0  1 0  0  0  1  1 1 128", api.ErrRange},
		{"6  1 0  0  0  0", api.ErrRange},
		{"255  1 0  0  0  0", api.ErrRange},
		{"0  0 0  0  0  0", api.ErrRange},
		{"0  201 0  0  0  0", api.ErrRange},
		{"0  1 0  0  1  10 0  0", api.ErrRange},
		{"0  1 0  0  1  255 0  0", api.ErrRange},
		{"0  1 0  0  1  0 3 " + ones(3) + " 0", api.OK},
		{"0  1 0  0  1  0 4 " + ones(4) + " 0", api.ErrRange},
		{"0  1 0  0  1  0 255 " + ones(255) + " 0", api.ErrRange},
		{"0  1 0  0  1  0 1  65 66 15 0  0", api.ErrRange},
		{"0  1 0  0  1  0 1  191 189 240 255  0", api.ErrRange},
		{"0  1 0  0  1  0 1  0 0 0 128  0", api.ErrRange},
		{"0  1 0  0  1  0 1  255 255 255 127  0", api.ErrRange},
		{"0  1 0  6 " + strings.Repeat("1 1 0 ", 6) + " 0  0", api.ErrState},
		{"0  1 0  7 " + strings.Repeat("1 1 0 ", 7) + " 0  0", api.ErrMany},
		{"0  1 0  255 " + strings.Repeat("1 1 0 ", 255) + " 0  0", api.ErrMany},
		{"0  1 0  0  6 " + strings.Repeat("1 0 ", 6) + " 0", api.ErrState},
		{"0  1 0  0  7 " + strings.Repeat("1 0 ", 7) + " 0", api.ErrMany},
		{"0  1 0  0  255 " + strings.Repeat("1 0 ", 255) + " 0", api.ErrMany},
		{"0  1 0  0  0  7 " + strings.Repeat("1 1 0 ", 7), api.ErrMany},
		{"0  1 0  0  0  2  1 1 0  1 1 0", api.ErrState},
		{"0  2 0  0  0  0", api.ErrNone},
		{"0  2 0  1  0 1 0  0  0", api.OK},
		// ErrForm ahead of what Check says.
		{"6  0 0  0  0  0  0", api.ErrForm},
		{"0  2 0  0  0", api.ErrForm},
		{"0  1 0  7 " + strings.Repeat("1 1 0 ", 7) + " 0", api.ErrForm},
	} {
		u, e := Decode(told(t, c.words))
		if e != c.want || e != api.OK && !same(u, api.Update{}) {
			t.Errorf("Decode(%s) = %v %d, want %d", c.words, u, e, c.want)
		}
	}
}

// K2: a long text of one byte again and again is none.
func TestDecodeLong(t *testing.T) {
	for b := range 256 {
		if _, e := Decode(strings.Repeat(string([]byte{byte(b)}), 1<<20)); e != api.ErrForm {
			t.Errorf("Decode of many bytes %d: %d", b, e)
		}
	}
}

// P2: what is handed in is only read, spare room too.
func TestOnlyReads(t *testing.T) {
	made := func() api.Update {
		says := facts(f(1, 5, 6), f(2, 7), f(3, 8))
		for i := range says {
			says[i].Args = slices.Concat(says[i].Args, []int{50, 51})[:len(says[i].Args)]
		}
		return api.Update{Id: id(0, 2), Parents: ids(id(0, 1), id(3, 3), id(9, 9), id(8, 8))[:2], Says: says[:2], Takes: ids(id(2, 2), id(9, 9))[:1]}
	}
	room := func(u api.Update) string {
		s := fmt.Sprint(u.Id, u.Parents[:cap(u.Parents)], u.Says[:cap(u.Says)], u.Takes[:cap(u.Takes)])
		for _, f := range u.Says[:cap(u.Says)] {
			s += fmt.Sprint(f.Args[:cap(f.Args)])
		}
		return s
	}
	u := made()
	s, e := Encode(u)
	if e != api.OK || Check(u) != api.OK || room(u) != room(made()) {
		t.Errorf("%d: what was handed in is %s, was %s", e, room(u), room(made()))
	}
	clear(u.Says)
	if again, _ := Encode(made()); again != s {
		t.Errorf("it is %q, was %q", s, again)
	}
}

// P2: no two lists of an answer share memory.
func TestAnswersAreTheCallers(t *testing.T) {
	u := api.Update{Id: id(0, 3), Parents: ids(id(0, 2), id(1, 1)), Says: facts(f(1, 5), f(2, 6, 7), f(3, 8, 9, 10)), Takes: ids(id(0, 1), id(1, 1), id(2, 1))}
	s, _ := Encode(u)
	got, e := Decode(s)
	if e != api.OK {
		t.Fatal(e)
	}
	for i, f := range got.Says {
		for k := range f.Args[:cap(f.Args)] {
			f.Args[:cap(f.Args)][k] = 1000 + i
		}
	}
	for i, f := range got.Says {
		if slices.ContainsFunc(f.Args[:cap(f.Args)], func(n int) bool { return n != 1000+i }) {
			t.Errorf("lists share memory: %v", got)
		}
	}
	clear(got.Parents[:cap(got.Parents)])
	if got.Takes[0] != id(0, 1) {
		t.Errorf("lists share memory: %v", got)
	}
	if again, _ := Decode(s); !same(again, u) {
		t.Errorf("Decode again: %v, want %v", again, u)
	}
}
