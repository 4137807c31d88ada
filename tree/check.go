package tree

import (
	"groundwork/api"
	"groundwork/token"
)

// greatest number that a text can have: MaxDigits nines.
const greatest = 9999999

// tooMany rules, literals or terms anywhere in a tree.
func tooMany(t api.Tree) bool {
	if len(t.Rules) > api.MaxRules {
		return true
	}
	for _, r := range t.Rules {
		if len(r.Body) > api.MaxBody || len(r.Terms) > api.MaxArity {
			return true
		}
		for _, l := range r.Body {
			if len(l.Terms) > api.MaxArity {
				return true
			}
		}
	}
	return false
}

func ruleIsRight(r api.TreeRule) bool {
	if !isName(r.Name) || !termsAreRight(r.Terms) || !foldIsRight(r) {
		return false
	}
	for _, l := range r.Body {
		if !litIsRight(l) {
			return false
		}
	}
	return true
}

func foldIsRight(r api.TreeRule) bool {
	if r.Fold == api.FoldNone {
		return true
	}
	return api.FoldCount <= r.Fold && r.Fold <= api.FoldMost && len(r.Terms) > 0 && len(r.Body) > 0
}

func litIsRight(l api.TreeLit) bool {
	if !termsAreRight(l.Terms) {
		return false
	}
	switch l.Kind {
	case api.LitYes, api.LitNot:
		return l.Op == 0 && isName(l.Name)
	case api.LitTest:
		return isTest(l.Op) && l.Name == "" && len(l.Terms) == 2
	case api.LitCalc:
		return isCalc(l.Op) && l.Name == "" && len(l.Terms) == 3
	}
	return false
}

func termsAreRight(l []api.TreeTerm) bool {
	for _, t := range l {
		if !termIsRight(t) {
			return false
		}
	}
	return true
}

func termIsRight(t api.TreeTerm) bool {
	if t.Var == "" {
		return -greatest <= t.N && t.N <= greatest
	}
	return t.N == 0 && isToken(t.Var, api.TokenVar)
}

func isName(s string) bool { return isToken(s, api.TokenName) && !isWord(s) }

// isToken: Join takes a token just if it is the only one of its text.
func isToken(s string, kind int) bool {
	_, e := token.Join([]api.Token{{Kind: kind, Text: s}})
	return e == api.OK
}
