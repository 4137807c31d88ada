package rule

import (
	"slices"

	"groundwork/api"
	"groundwork/relation"
)

// folded: of heads, one for each way, all that are the same but for the last number as one with what is folded of it; none, if that may be no number.
func folded(fold int, heads []api.Fact) []api.Fact {
	// In order, those of a group stand together.
	slices.SortFunc(heads, relation.Order)
	var out []api.Fact
	var numbers []int
	for i, f := range heads {
		last := len(f.Args) - 1
		numbers = append(numbers, f.Args[last])
		if i+1 < len(heads) && slices.Equal(f.Args[:last], heads[i+1].Args[:last]) {
			continue
		}
		if n := foldedNumber(fold, numbers); isNumber(n) {
			out = append(out, api.Fact{Pred: f.Pred, Args: append(slices.Clone(f.Args[:last]), n)})
		}
		numbers = nil
	}
	return out
}

// foldedNumber of those of a group, one for each way.
func foldedNumber(fold int, numbers []int) int {
	switch fold {
	case api.FoldCount:
		return len(numbers)
	case api.FoldLeast:
		return slices.Min(numbers)
	case api.FoldMost:
		return slices.Max(numbers)
	}
	sum := 0
	for _, n := range numbers {
		sum += n
	}
	return sum
}
