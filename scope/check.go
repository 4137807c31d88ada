package scope

import (
	"slices"

	"groundwork/api"
	"groundwork/tree"
)

// check a program: gives up at the first thing that is wrong.
func check(p api.Program) {
	refuse(len(p.Arity) > api.MaxPreds || len(p.Rules) > api.MaxRules, api.ErrMany)
	refuse(len(p.Names) != len(p.Arity), api.ErrForm)
	ahead := numbers{}
	for i, name := range p.Names {
		refuse(p.Arity[i] < 0 || p.Arity[i] > api.MaxArity, api.ErrRange)
		refuse(!isName(name), api.ErrForm)
		// All names ahead are other ones: so a new one has the next number.
		refuse(ahead.of(name) != i, api.ErrTwice)
	}
	for _, r := range p.Rules {
		checkRule(p, r)
	}
}

// isName: a rule without terms is one of a text just if its name is one.
func isName(s string) bool {
	return tree.Check(api.Tree{Rules: []api.TreeRule{{Name: s}}}) == api.OK
}

func checkRule(p api.Program, r api.Rule) {
	refuse(!isPred(p, r.Pred), api.ErrNone)
	refuse(len(r.Terms) != p.Arity[r.Pred], api.ErrForm)
	refuse(r.Vars < 0 || r.Vars > api.MaxVars, api.ErrRange)
	checkTerms(r.Terms, r.Vars)
	refuse(r.Fold < api.FoldNone || r.Fold > api.FoldMost, api.ErrKind)
	refuse(r.Fold != api.FoldNone && (len(r.Terms) == 0 || len(r.Body) == 0), api.ErrForm)
	refuse(len(r.Body) > api.MaxBody, api.ErrMany)
	for _, l := range r.Body {
		checkLit(p, l)
		checkTerms(l.Terms, r.Vars)
	}
	refuse(!isSafe(r), api.ErrState)
}

// checkTerms of a rule that has so many variables.
func checkTerms(l []api.Term, vars int) {
	for _, t := range l {
		refuse(t.Var < -1 || t.Var >= vars, api.ErrNone)
		refuse(!isNumber(t.N) || t.Var >= 0 && t.N != 0, api.ErrRange)
	}
}

// checkLit: all of a literal but its terms, which come last.
func checkLit(p api.Program, l api.Lit) {
	switch l.Kind {
	case api.LitYes, api.LitNot:
		refuse(l.Op != 0, api.ErrRange)
		refuse(!isPred(p, l.Pred), api.ErrNone)
		refuse(len(l.Terms) != p.Arity[l.Pred], api.ErrForm)
	case api.LitTest:
		refuse(l.Op < api.OpLess || l.Op > api.OpOther, api.ErrRange)
		refuse(l.Pred != 0 || len(l.Terms) != 2, api.ErrForm)
	case api.LitCalc:
		refuse(l.Op < api.OpAdd || l.Op > api.OpMul, api.ErrRange)
		refuse(l.Pred != 0 || len(l.Terms) != 3, api.ErrForm)
	default:
		refuse(true, api.ErrKind)
	}
}

// isSafe: are all variables of a rule bound?
func isSafe(r api.Rule) bool {
	bound := make([]bool, r.Vars)
	known := func(t api.Term) bool { return t.Var < 0 || bound[t.Var] }
	// What a literal binds may hang on one behind it; once more for each literal is enough, as each binds but once.
	for range r.Body {
		for _, l := range r.Body {
			for _, t := range binds(l, known) {
				if t.Var >= 0 {
					bound[t.Var] = true
				}
			}
		}
	}
	return !slices.Contains(bound, false)
}

// binds: the terms that a literal binds, by what is known.
func binds(l api.Lit, known func(api.Term) bool) []api.Term {
	switch {
	case l.Kind == api.LitYes:
		return l.Terms
	case l.Kind == api.LitCalc && known(l.Terms[0]) && known(l.Terms[1]):
		return l.Terms[2:]
	}
	return nil
}
