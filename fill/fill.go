// Package fill: terms with numbers in place of their variables. Whoever calls has checked that each variable has one.
package fill

import "groundwork/api"

// Fact of a predicate with terms whose variables are these numbers.
func Fact(pred int, terms []api.Term, numbers []int) api.Fact {
	f := api.Fact{Pred: pred}
	for _, t := range terms {
		f.Args = append(f.Args, Number(t, numbers))
	}
	return f
}

// Number of a term whose variable, if it is one, is among these.
func Number(t api.Term, numbers []int) int {
	if t.Var < 0 {
		return t.N
	}
	return numbers[t.Var]
}
