package wire

import "groundwork/api"

// How many bytes an id's Number, and one of Args, are.
const (
	numberBytes = 2
	argBytes    = 4
)

// put a number behind others, as some bytes, the lesser ones first.
func put(b []byte, n, bytes int) []byte {
	for range bytes {
		b = append(b, byte(n))
		n >>= 8
	}
	return b
}

func putId(b []byte, id api.Id) []byte {
	return put(put(b, id.Author, 1), id.Number, numberBytes)
}

func putIds(b []byte, l []api.Id) []byte {
	b = put(b, len(l), 1)
	for _, id := range l {
		b = putId(b, id)
	}
	return b
}

func putFact(b []byte, f api.Fact) []byte {
	b = put(put(b, f.Pred, 1), len(f.Args), 1)
	for _, n := range f.Args {
		b = put(b, n, argBytes)
	}
	return b
}

func putUpdate(b []byte, u api.Update) []byte {
	b = put(putIds(putId(b, u.Id), u.Parents), len(u.Says), 1)
	for _, f := range u.Says {
		b = putFact(b, f)
	}
	return putIds(b, u.Takes)
}

// reader of bytes: those that are left; whether there were too few.
type reader struct {
	left  string
	short bool
}

// number of some bytes, the lesser ones first.
func (r *reader) number(bytes int) uint32 {
	if len(r.left) < bytes {
		// With 0 for what is not there, lists end soon.
		r.left, r.short = "", true
		return 0
	}
	var n uint32
	for i := range bytes {
		n |= uint32(r.left[i]) << (8 * i)
	}
	r.left = r.left[bytes:]
	return n
}

// list of what is read as often as a byte says.
func list[T any](r *reader, read func() T) []T {
	var l []T
	for range r.number(1) {
		l = append(l, read())
	}
	return l
}

// update that bytes tell, right or wrong.
func (r *reader) update() api.Update {
	id := func() api.Id {
		return api.Id{Author: int(r.number(1)), Number: int(r.number(numberBytes))}
	}
	// By int32, what is more than half of all is below 0.
	arg := func() int { return int(int32(r.number(argBytes))) }
	fact := func() api.Fact {
		return api.Fact{Pred: int(r.number(1)), Args: list(r, arg)}
	}
	// One by one: each stands behind the one ahead of it.
	u := api.Update{Id: id()}
	u.Parents = list(r, id)
	u.Says = list(r, fact)
	u.Takes = list(r, id)
	return u
}
