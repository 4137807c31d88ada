package why

import (
	"iter"
	"slices"

	"groundwork/api"
	"groundwork/fill"
	"groundwork/model"
	"groundwork/relation"
	"groundwork/rule"
)

// given stands for the rule of a step whose fact is.
const given = -1

// rightSteps: all that may stand in a proof, if what they need stands ahead; what is given first. Errors: those of the model.
func rightSteps(p api.Program, l []api.Fact) ([]api.Step, api.Errno) {
	m, e := model.Model(p, l)
	if e != api.OK {
		return nil, e
	}
	var steps []api.Step
	for _, f := range relation.Set(l) {
		steps = append(steps, api.Step{Fact: f, Rule: given})
	}
	for i := range p.Rules {
		steps = append(steps, stepsBy(p, i, m)...)
	}
	return steps, api.OK
}

// stepsBy a rule: one for each of its ways, with the facts of the model, that has a head.
func stepsBy(p api.Program, i int, m []api.Fact) []api.Step {
	// Neither has an error: the model would have it.
	ways, _ := rule.Ways(p, i, m)
	heads, _ := rule.Heads(p, i, m)
	var steps []api.Step
	for _, w := range ways {
		if h := headOf(p.Rules[i], w, heads); h >= 0 {
			steps = append(steps, api.Step{Fact: heads[h], Rule: i, Vars: w})
		}
	}
	return steps
}

// headOf a way: which one of a rule's heads has its numbers, in all terms but one that is folded; -1, if what is folded may be no number.
func headOf(r api.Rule, way []int, heads []api.Fact) int {
	args := fill.Fact(r.Pred, r.Terms, way).Args
	if r.Fold != api.FoldNone {
		args = args[:len(args)-1]
	}
	return slices.IndexFunc(heads, func(h api.Fact) bool { return slices.Equal(h.Args[:len(args)], args) })
}

// needs: the facts of which a right step needs steps ahead.
func needs(p api.Program, s api.Step) iter.Seq[api.Fact] {
	return func(yield func(api.Fact) bool) {
		if s.Rule == given || p.Rules[s.Rule].Fold != api.FoldNone {
			return
		}
		for _, l := range p.Rules[s.Rule].Body {
			if l.Kind == api.LitYes && !yield(fill.Fact(l.Pred, l.Terms, s.Vars)) {
				return
			}
		}
	}
}

// isReady: does all that a right step needs stand ahead?
func isReady(p api.Program, ahead []api.Step, s api.Step) bool {
	for f := range needs(p, s) {
		if !proven(ahead, f) {
			return false
		}
	}
	return true
}

// proven: is a fact that of one of some steps?
func proven(steps []api.Step, f api.Fact) bool {
	return slices.ContainsFunc(steps, func(s api.Step) bool { return isOf(s, f) })
}

func isOf(s api.Step, f api.Fact) bool { return relation.Order(s.Fact, f) == 0 }

func same(a, b api.Step) bool {
	return a.Rule == b.Rule && slices.Equal(a.Vars, b.Vars) && isOf(a, b.Fact)
}
