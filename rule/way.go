package rule

import (
	"slices"

	"groundwork/api"
	"groundwork/fill"
	"groundwork/relation"
)

// way so far: the numbers of those variables that have one. It is handed on as a value, so that whoever goes on from it leaves it as it was.
type way struct {
	numbers [api.MaxVars]int
	known   [api.MaxVars]bool
}

func (w way) knows(t api.Term) bool { return t.Var < 0 || w.known[t.Var] }

func (w way) number(t api.Term) int { return fill.Number(t, w.numbers[:]) }

// with: the way on from this one on which terms are these numbers; is there one?
func (w way) with(terms []api.Term, numbers []int) (way, bool) {
	for i, t := range terms {
		if !w.knows(t) {
			w.known[t.Var] = true
			w.numbers[t.Var] = numbers[i]
		}
		if w.number(t) != numbers[i] {
			return way{}, false
		}
	}
	return w, true
}

// each way on from one so far on which all literals hold is told; who is told answers whether to go on, and so does each.
func each(facts []api.Fact, body []api.Lit, w way, tell func(way) bool) bool {
	if len(body) == 0 {
		return tell(w)
	}
	i := next(facts, body, w)
	others := slices.Concat(body[:i], body[i+1:])
	return hold(facts, body[i], w, func(on way) bool { return each(facts, others, on, tell) })
}

// next literal to look at: of those that are ready the one with which fewest ways go on, as ways that come to nothing are told soonest so. In a safe rule there always is one.
func next(facts []api.Fact, body []api.Lit, w way) int {
	best, fewest := 0, -1
	for i, l := range body {
		if !ready(l, w) {
			continue
		}
		n := 0
		hold(facts, l, w, func(way) bool {
			n++
			return true
		})
		if fewest < 0 || n < fewest {
			best, fewest = i, n
		}
	}
	return best
}

// ready: is enough known to tell with which numbers a literal holds?
func ready(l api.Lit, w way) bool {
	switch l.Kind {
	case api.LitYes:
		return true
	case api.LitCalc:
		return w.knows(l.Terms[0]) && w.knows(l.Terms[1])
	}
	return !slices.ContainsFunc(l.Terms, func(t api.Term) bool { return !w.knows(t) })
}

// hold: each way on from one so far on which a literal that is ready holds is told, as by each.
func hold(facts []api.Fact, l api.Lit, w way, tell func(way) bool) bool {
	switch l.Kind {
	case api.LitYes:
		return holdYes(facts, l, w, tell)
	case api.LitNot:
		return relation.Has(facts, fill.Fact(l.Pred, l.Terms, w.numbers[:])) || tell(w)
	case api.LitTest:
		return !isSo(l.Op, w.number(l.Terms[0]), w.number(l.Terms[1])) || tell(w)
	}
	n := reckoned(l.Op, w.number(l.Terms[0]), w.number(l.Terms[1]))
	on, ok := w.with(l.Terms[2:], []int{n})
	return !ok || !isNumber(n) || tell(on)
}

func holdYes(facts []api.Fact, l api.Lit, w way, tell func(way) bool) bool {
	for _, f := range facts {
		if f.Pred != l.Pred {
			continue
		}
		if on, ok := w.with(l.Terms, f.Args); ok && !tell(on) {
			return false
		}
	}
	return true
}

// isSo: are two numbers as a test asks?
func isSo(op, a, b int) bool {
	switch op {
	case api.OpLess:
		return a < b
	case api.OpMost:
		return a <= b
	case api.OpSame:
		return a == b
	}
	return a != b
}

// reckoned: what an op makes of two numbers.
func reckoned(op, a, b int) int {
	switch op {
	case api.OpAdd:
		return a + b
	case api.OpSub:
		return a - b
	}
	return a * b
}
