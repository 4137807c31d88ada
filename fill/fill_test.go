package fill

import (
	"slices"
	"testing"

	"groundwork/api"
)

// G1, G2, I1: variables, once or again, have their numbers; numbers stay; neither shares memory with what was handed in.
func TestFact(t *testing.T) {
	numbers := []int{7, -8}
	for _, c := range []struct {
		terms []api.Term
		want  []int
	}{
		{nil, nil},
		{[]api.Term{{Var: -1, N: 5}}, []int{5}},
		{[]api.Term{{Var: -1}}, []int{0}},
		{[]api.Term{{Var: 0}}, []int{7}},
		{[]api.Term{{Var: 1}, {Var: -1, N: -3}, {Var: 1}}, []int{-8, -3, -8}},
		{[]api.Term{{Var: 0}, {Var: 1}}, []int{7, -8}},
	} {
		f := Fact(4, c.terms, numbers)
		if f.Pred != 4 || !slices.Equal(f.Args, c.want) {
			t.Errorf("Fact(4, %v, %v) = %v, want %v", c.terms, numbers, f, c.want)
		}
		clear(f.Args)
		if !slices.Equal(numbers, []int{7, -8}) {
			t.Fatalf("numbers are %v", numbers)
		}
	}
}
