package wire

import (
	"encoding/binary"
	"fmt"
	"slices"
	"testing"

	"groundwork/api"
	"groundwork/relation"
)

// draw numbers for updates at random; the same each time.
type draw uint64

func (d *draw) n(n int) int {
	*d = *d*6364136223846793005 + 1442695040888963407
	return int(uint64(*d) >> 33 % uint64(n))
}

// of: one of some.
func of[T any](d *draw, l ...T) T { return l[d.n(len(l))] }

// id: nearly always a right one; what is wrong fits into its bytes.
func (d *draw) id() api.Id {
	if d.n(40) == 0 {
		return of(d, id(6, 1), id(255, 1), id(0, 0), id(0, 201), id(5, 65535), id(1, 256))
	}
	return id(d.n(6), of(d, 1, 2, 3, 4, 1+d.n(200)))
}

// sorted, nearly always, each once.
func sorted[T any](d *draw, l []T, order func(a, b T) int) []T {
	if d.n(20) > 0 {
		slices.SortFunc(l, order)
		l = slices.CompactFunc(l, func(a, b T) bool { return order(a, b) == 0 })
	}
	return l
}

// ids that nearly always rise; seldom too many.
func (d *draw) ids(l ...api.Id) []api.Id {
	for range of(d, 0, 1, 2, d.n(6), d.n(10)) {
		l = append(l, d.id())
	}
	return sorted(d, l, func(a, b api.Id) int { return a.Author*100000 + a.Number - b.Author*100000 - b.Number })
}

func (d *draw) fact() api.Fact {
	f := api.Fact{Pred: d.n(10)}
	if d.n(60) == 0 {
		f.Pred = of(d, 10, 255)
	}
	for range of(d, 0, 1, 2, 3, 3, d.n(5)) {
		f.Args = append(f.Args, of(d, d.n(3), d.n(2000001)-1000000, 1000000, -1000000))
		if d.n(60) == 0 {
			f.Args[0] = of(d, 1000001, -1000001, 1<<31-1, -1<<31)
		}
	}
	return f
}

// update that is right more often than not.
func (d *draw) update() api.Update {
	u := api.Update{Id: d.id(), Parents: d.ids(), Takes: d.ids()}
	if u.Id.Number > 1 && d.n(10) > 0 {
		u.Parents = d.ids(id(u.Id.Author, u.Id.Number-1))
	}
	for range of(d, 0, 1, 2, d.n(9)) {
		u.Says = append(u.Says, d.fact())
	}
	u.Says = sorted(d, u.Says, relation.Order)
	return u
}

// isId by all there are.
func isId(x api.Id) bool {
	for a := range api.MaxAuthors {
		if slices.Contains(row(a, api.MaxUpdates), x) {
			return true
		}
	}
	return false
}

// climbs: is each one ahead of all behind it?
func climbs(l []api.Id) bool {
	for i, a := range l {
		for _, b := range l[i+1:] {
			if a.Author > b.Author || a.Author == b.Author && a.Number >= b.Number {
				return false
			}
		}
	}
	return true
}

// checked: the document's words, one by one.
func checked(u api.Update) api.Errno {
	if !isId(u.Id) {
		return api.ErrRange
	}
	if len(u.Parents) > 6 || len(u.Says) > 6 || len(u.Takes) > 6 {
		return api.ErrMany
	}
	for _, x := range slices.Concat(u.Parents, u.Takes) {
		if !isId(x) {
			return api.ErrRange
		}
	}
	if !climbs(u.Parents) || !climbs(u.Takes) {
		return api.ErrState
	}
	if u.Id.Number > 1 && !slices.Contains(u.Parents, id(u.Id.Author, u.Id.Number-1)) {
		return api.ErrNone
	}
	for _, f := range u.Says {
		if f.Pred > 9 || len(f.Args) > 3 || len(f.Args) > 0 && (slices.Max(f.Args) > 1000000 || slices.Min(f.Args) < -1000000) {
			return api.ErrRange
		}
	}
	if fmt.Sprint(relation.Set(u.Says)) != fmt.Sprint(u.Says) {
		return api.ErrState
	}
	return api.OK
}

// raw bytes of an update, right or wrong.
func raw(u api.Update) string {
	var b []byte
	some := func(l []api.Id) {
		for _, x := range l {
			b = binary.LittleEndian.AppendUint16(append(b, byte(x.Author)), uint16(x.Number))
		}
	}
	some([]api.Id{u.Id})
	b = append(b, byte(len(u.Parents)))
	some(u.Parents)
	b = append(b, byte(len(u.Says)))
	for _, f := range u.Says {
		b = append(b, byte(f.Pred), byte(len(f.Args)))
		for _, n := range f.Args {
			b = binary.LittleEndian.AppendUint32(b, uint32(int32(n)))
		}
	}
	b = append(b, byte(len(u.Takes)))
	some(u.Takes)
	return string(b)
}

// K1 to K3: any update, by the document's words: whether it is right, its bytes, and what they are read as.
func TestAnyUpdate(t *testing.T) {
	d := draw(1)
	seen := map[api.Errno]int{}
	for range 20000 {
		u := d.update()
		want := checked(u)
		seen[want]++
		s, e := Encode(u)
		if Check(u) != want || e != want || e == api.OK && s != raw(u) || e != api.OK && s != "" {
			t.Fatalf("%v: Check %d, Encode %q %d, want %q %d", u, Check(u), s, e, raw(u), want)
		}
		v, e := Decode(raw(u))
		if e != want || e == api.OK && !same(u, v) || e != api.OK && !same(v, api.Update{}) {
			t.Fatalf("%v: Decode %v %d, want %d", u, v, e, want)
		}
	}
	for _, e := range []api.Errno{api.OK, api.ErrMany, api.ErrRange, api.ErrState, api.ErrNone} {
		if seen[e] < 200 {
			t.Errorf("%d only %d times", e, seen[e])
		}
	}
}

// end of what bytes tell of an update: how many there must be; -1, if there are not enough to tell.
func end(s string) int {
	at := 3
	for _, size := range []int{3, 0, 3} {
		if at >= len(s) {
			return -1
		}
		n := int(s[at])
		at += 1 + n*size
		for range n {
			if size > 0 {
				continue
			}
			if at+1 >= len(s) {
				return -1
			}
			at += 2 + 4*int(s[at+1])
		}
	}
	return at
}

// K2, K3: bytes with some changed, put in or left out: they are just those of what they are read as, or of none.
func TestAnyBytes(t *testing.T) {
	d := draw(2)
	seen := map[api.Errno]int{}
	for range 40000 {
		b := []byte(raw(d.update()))
		for range d.n(3) {
			at := d.n(len(b))
			switch d.n(3) {
			case 0:
				b[at] = byte(of(&d, d.n(8), d.n(256)))
			case 1:
				b = slices.Insert(b, at, byte(d.n(8)))
			case 2:
				b = slices.Delete(b, at, min(at+1+d.n(4), len(b)))
			}
			if len(b) == 0 {
				break
			}
		}
		s := string(b)
		u, e := Decode(s)
		seen[e]++
		if (e == api.ErrForm) != (end(s) != len(s)) || e != api.OK && !same(u, api.Update{}) {
			t.Fatalf("Decode(%q) = %v %d, of %d bytes", s, u, e, end(s))
		}
		if again, g := Encode(u); e == api.OK && (again != s || g != api.OK) {
			t.Fatalf("Decode(%q) = %v, which is %q %d", s, u, again, g)
		}
	}
	for _, e := range []api.Errno{api.OK, api.ErrForm, api.ErrMany, api.ErrRange, api.ErrState, api.ErrNone} {
		if seen[e] < 100 {
			t.Errorf("%d only %d times", e, seen[e])
		}
	}
}

// K3: different updates have different bytes.
func TestDifferentBytes(t *testing.T) {
	d := draw(3)
	told := map[string]string{}
	for range 20000 {
		u := d.update()
		s, e := Encode(u)
		if e != api.OK {
			continue
		}
		if was, is := told[s]; is && was != fmt.Sprint(u) {
			t.Fatalf("%q is both %v and %s", s, u, was)
		}
		told[s] = fmt.Sprint(u)
	}
	if len(told) < 1000 {
		t.Errorf("only %d", len(told))
	}
}

// P3: the same each time, whatever was asked between, and whatever was done with an answer.
func TestSameEachTime(t *testing.T) {
	var first []string
	for range 3 {
		d := draw(4)
		var now []string
		for range 300 {
			u := d.update()
			s, e := Encode(u)
			v, g := Decode(raw(u))
			now = append(now, fmt.Sprint(Check(u), s, e, v, g))
			clear(v.Parents)
			clear(v.Says)
			clear(v.Takes)
		}
		if first == nil {
			first = now
		}
		if !slices.Equal(first, now) {
			t.Errorf("answers are %v, were %v", now, first)
		}
	}
}
