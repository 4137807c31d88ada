package why

import (
	"fmt"
	"math"
	"slices"
	"testing"

	"groundwork/api"
	"groundwork/model"
	"groundwork/relation"
	"groundwork/rule"
	"groundwork/scope"
	"groundwork/strata"
)

// pool of rules of which programs are put together.
func pool() []string {
	return []string{
		"p(X, Y) :- q(X, Y).",
		"p(X, Z) :- p(X, Y), q(Y, Z).",
		"p(X, Z) :- p(X, Y), p(Y, Z).",
		"p(Y, X) :- p(X, Y).",
		"q(1, 2).",
		"q(X, Y) :- p(Y, X), X < Y.",
		"q(X, N) :- c(X, M), M - 1 = N, N < 3.",
		"r(0).",
		"r(X) :- q(X, Y), Y != 1.",
		"r(X) :- w(X, Y, Z), Z = 2.",
		"s(X) :- r(X), not t(X).",
		"s(N) :- r(M), M + 1 = N.",
		"s(X) :- p(X, X).",
		"t(X) :- q(X, Y), not r(Y).",
		"t(N) :- t(M), s(K), M - K = N, 0 <= N.",
		"c(X, count Y) :- p(X, Y).",
		"c(X, sum Y) :- q(Y, X).",
		"c(0, least Y) :- r(Y).",
		"c(X, most X) :- s(X).",
		"c(9, sum Y) :- q(X, Z), Z * 600000 = Y.",
		"z() :- c(X, 2).",
		"z() :- not s(1), r(2).",
		"z() :- z().",
		"w(X, Y, Z) :- q(X, Y), q(Y, Z), X <= Z.",
		"w(X, X, 2) :- r(X), z().",
	}
}

// draw numbers for what is put together at random; the same each time.
type draw uint64

func (d *draw) n(n int) int {
	*d = *d*6364136223846793005 + 1442695040888963407
	return int(uint64(*d) >> 33 % uint64(n))
}

// program with rules of the pool, as many as have levels, and facts of it, so that there is a model.
func (d *draw) program(t *testing.T) (api.Program, []api.Fact) {
	for {
		p, s := api.Program{}, ""
		for many := d.n(api.MaxRules) + 1; len(p.Rules) < many; {
			more := s + pool()[d.n(len(pool()))]
			q := program(t, more)
			if _, e := strata.Levels(q); e == api.OK {
				p, s = q, more
			}
		}
		var l []api.Fact
		for range d.n(8) {
			l = append(l, d.fact(p))
		}
		if _, e := model.Model(p, l); e == api.OK {
			return p, l
		}
	}
}

// fact of a program, often of q, on which much hangs.
func (d *draw) fact(p api.Program) api.Fact {
	f := api.Fact{Pred: d.n(len(p.Arity))}
	if q := slices.Index(p.Names, "q"); q >= 0 && d.n(2) == 0 {
		f.Pred = q
	}
	for range p.Arity[f.Pred] {
		f.Args = append(f.Args, d.n(4))
	}
	return f
}

// step at random: by some rule, with some of its ways, and mostly one of its heads; or of some fact as if it were given.
func (d *draw) step(p api.Program, m []api.Fact) api.Step {
	i := d.n(len(p.Rules)+1) - 1
	if i < 0 {
		return api.Step{Fact: d.fact(p), Rule: -1}
	}
	ways, _ := rule.Ways(p, i, m)
	heads, _ := rule.Heads(p, i, m)
	if len(heads) == 0 {
		return api.Step{Fact: d.fact(p), Rule: i}
	}
	return api.Step{Fact: heads[d.n(len(heads))], Rule: i, Vars: ways[d.n(len(ways))]}
}

// turned: steps with one thing, whichever, turned about.
func (d *draw) turned(s []api.Step) []api.Step {
	s = slices.Clone(s)
	i, j := d.n(len(s)), d.n(len(s))
	z := &s[i]
	switch d.n(9) {
	case 0:
		return slices.Delete(s, i, i+1)
	case 1:
		s[i], s[j] = s[j], s[i]
	case 2:
		return slices.Insert(s, i, s[j])
	case 3:
		z.Rule += d.n(5) - 2
	case 4:
		z.Vars = append(slices.Clone(z.Vars), d.n(3))
	case 5:
		z.Vars = d.other(z.Vars)
	case 6:
		z.Fact.Args = d.other(z.Fact.Args)
	case 7:
		z.Fact.Pred += d.n(3) - 1
	case 8:
		z.Rule, z.Vars = -1, nil
	}
	return s
}

// other: a list of numbers with one of them another one.
func (d *draw) other(l []int) []int {
	l = slices.Clone(l)
	if len(l) > 0 {
		l[d.n(len(l))] += d.n(3) - 1
	}
	return l
}

// key: a fact as a text.
func key(f api.Fact) string { return fmt.Sprint(f.Pred, len(f.Args), f.Args) }

// filled: the text of the fact of terms.
func filled(pred int, terms []api.Term, vars []int) string {
	f := api.Fact{Pred: pred}
	for _, t := range terms {
		n := t.N
		if t.Var >= 0 {
			n = vars[t.Var]
		}
		f.Args = append(f.Args, n)
	}
	return key(f)
}

// isProof, as the document's words have it, one after another.
func isProof(p api.Program, l, m []api.Fact, s []api.Step) bool {
	ahead := map[string]bool{}
	for _, step := range s {
		if !isStep(p, l, m, ahead, step) {
			return false
		}
		ahead[key(step.Fact)] = true
	}
	return len(s) > 0
}

func isStep(p api.Program, l, m []api.Fact, ahead map[string]bool, s api.Step) bool {
	if s.Rule == -1 {
		return relation.Has(l, s.Fact) && len(s.Vars) == 0
	}
	ways, e := rule.Ways(p, s.Rule, m)
	if e != api.OK || !slices.ContainsFunc(ways, func(w []int) bool { return slices.Equal(w, s.Vars) }) {
		return false
	}
	r := p.Rules[s.Rule]
	if r.Fold != api.FoldNone {
		heads, _ := rule.Heads(p, s.Rule, m)
		last := len(r.Terms) - 1
		return relation.Has(heads, s.Fact) && filled(0, r.Terms[:last], s.Vars) == key(api.Fact{Args: s.Fact.Args[:last]})
	}
	for _, b := range r.Body {
		if b.Kind == api.LitYes && !ahead[filled(b.Pred, b.Terms, s.Vars)] {
			return false
		}
	}
	return filled(r.Pred, r.Terms, s.Vars) == key(s.Fact)
}

// I2, I3: what is in a model has a proof, and what is not has none.
func TestProveOfAnyProgram(t *testing.T) {
	d := draw(1)
	long, folds := 0, 0
	for range 120 {
		p, l := d.program(t)
		m, _ := model.Model(p, l)
		asked := slices.Clone(m)
		for range 10 {
			asked = append(asked, d.fact(p))
		}
		for _, f := range asked {
			s, ok, e := Prove(p, l, f)
			if ok != relation.Has(m, f) || e != api.OK || !ok && len(s) > 0 {
				t.Fatalf("Prove(%v, %v, %v) = %v %v %d", p, l, f, s, ok, e)
			}
			if !ok {
				continue
			}
			if !isProof(p, l, m, s) || !distinct(s) || key(s[len(s)-1].Fact) != key(f) {
				t.Fatalf("Prove(%v, %v, %v) = %v", p, l, f, s)
			}
			if is, e := Check(p, l, s); !is || e != api.OK {
				t.Fatalf("Check(%v, %v, %v) = %v %d", p, l, s, is, e)
			}
			long += min(len(s)/4, 1)
			if z := s[len(s)-1]; z.Rule >= 0 && p.Rules[z.Rule].Fold != api.FoldNone {
				folds++
			}
		}
	}
	if long < 30 || folds < 80 {
		t.Errorf("%d long proofs, %d of folds", long, folds)
	}
}

// I1, I3: proofs that are turned about, or put together at random, are some if the document says so; each fact of one is in the model.
func TestCheckOfAnyProgram(t *testing.T) {
	d := draw(2)
	found := [2]int{}
	for range 60 {
		p, l := d.program(t)
		m, _ := model.Model(p, l)
		var tries [][]api.Step
		for _, f := range m {
			s, _, _ := Prove(p, l, f)
			for range 4 {
				tries = append(tries, d.turned(s))
			}
		}
		for range 20 {
			var s []api.Step
			for range d.n(4) {
				s = append(s, d.step(p, m))
			}
			tries = append(tries, s)
		}
		for _, s := range tries {
			want := isProof(p, l, m, s)
			if is, e := Check(p, l, s); is != want || e != api.OK {
				t.Fatalf("Check(%v, %v, %v) = %v %d", p, l, s, is, e)
			}
			if !want {
				found[0]++
				continue
			}
			found[1]++
			for _, step := range s {
				if !relation.Has(m, step.Fact) {
					t.Fatalf("%v, %v: %v is a proof, %v is not in the model", p, l, s, step.Fact)
				}
			}
		}
	}
	if found[0] < 500 || found[1] < 500 {
		t.Errorf("%d none, %d proofs", found[0], found[1])
	}
}

// I1, P1: steps with whatever numbers.
func TestCheckOfWildSteps(t *testing.T) {
	d := draw(3)
	wild := list(math.MinInt, -api.MaxNumber-1, -2, -1, 0, 1, 2, api.MaxNumber+1, math.MaxInt)
	some := func() []int {
		var l []int
		for range d.n(5) {
			l = append(l, wild[d.n(len(wild))])
		}
		return l
	}
	for range 300 {
		p, l := d.program(t)
		m, _ := model.Model(p, l)
		var s []api.Step
		for range d.n(3) + 1 {
			s = append(s, api.Step{Fact: api.Fact{Pred: wild[d.n(len(wild))], Args: some()}, Rule: wild[d.n(len(wild))], Vars: some()})
		}
		if is, e := Check(p, l, s); is != isProof(p, l, m, s) || e != api.OK {
			t.Fatalf("Check(%v, %v, %v) = %v %d", p, l, s, is, e)
		}
		f := s[0].Fact
		if x, ok, e := Prove(p, l, f); ok != relation.Has(m, f) || e != scope.Fact(p, f) || ok != (len(x) > 0) {
			t.Fatalf("Prove(%v, %v, %v) = %v %v %d", p, l, f, x, ok, e)
		}
	}
}
