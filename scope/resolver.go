package scope

import (
	"slices"
	"strings"

	"groundwork/api"
)

// resolver of a tree: the program so far, and the numbers of its predicates.
type resolver struct {
	program api.Program
	preds   numbers
}

// resolve a tree that Check (chapter 2) has passed: a program that may yet not be right.
func resolve(t api.Tree) api.Program {
	r := &resolver{preds: numbers{}}
	for _, from := range t.Rules {
		r.program.Rules = append(r.program.Rules, r.rule(from))
	}
	return r.program
}

func (r *resolver) rule(from api.TreeRule) api.Rule {
	vars := numbers{}
	rule := api.Rule{Fold: from.Fold}
	rule.Pred = r.pred(from.At, from.Name, len(from.Terms))
	rule.Terms = terms(from.At, from.Terms, vars)
	for _, l := range from.Body {
		rule.Body = append(rule.Body, r.lit(l, vars))
	}
	rule.Vars = len(vars)
	return rule
}

func (r *resolver) lit(from api.TreeLit, vars numbers) api.Lit {
	l := api.Lit{Kind: from.Kind, Op: from.Op}
	if from.Kind == api.LitYes || from.Kind == api.LitNot {
		l.Pred = r.pred(from.At, from.Name, len(from.Terms))
	}
	l.Terms = terms(from.At, from.Terms, vars)
	return l
}

// pred: the number of a predicate that stands at a place with so many terms.
func (r *resolver) pred(at int, name string, arity int) int {
	p := &r.program
	k := r.preds.of(name)
	if k == len(p.Arity) {
		p.Arity = append(p.Arity, arity)
		p.Names = append(p.Names, strings.Clone(name))
	}
	refuseAt(at, p.Arity[k] != arity, api.ErrForm)
	return k
}

// terms of a thing that stands at a place, its variables by their numbers.
func terms(at int, from []api.TreeTerm, vars numbers) []api.Term {
	refuseAt(at, slices.ContainsFunc(from, func(t api.TreeTerm) bool { return !isNumber(t.N) }), api.ErrRange)
	var l []api.Term
	for _, t := range from {
		if t.Var == "" {
			l = append(l, api.Term{Var: -1, N: t.N})
		} else {
			l = append(l, api.Term{Var: vars.of(t.Var)})
		}
	}
	return l
}
