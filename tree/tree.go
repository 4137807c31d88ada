// Package tree: trees: see doc/02-tree.md.
package tree

import (
	"groundwork/api"
	"groundwork/token"
)

// Check a tree.
func Check(t api.Tree) api.Errno {
	// All of the tree: too many of something anywhere comes ahead of a wrong form.
	if tooMany(t) {
		return api.ErrMany
	}
	for _, r := range t.Rules {
		if !ruleIsRight(r) {
			return api.ErrForm
		}
	}
	return api.OK
}

// Parse a text.
func Parse(s string) (api.Tree, int, api.Errno) {
	l, at, e := token.Scan(s)
	if e != api.OK {
		return api.Tree{}, at, e
	}
	t, at, e := parse(l, len(s))
	if e != api.OK {
		return api.Tree{}, at, e
	}
	if e := Check(t); e != api.OK {
		return api.Tree{}, 0, e
	}
	return t, 0, api.OK
}

// wordNot and the folds are words: no names.
const wordNot = "not"

func isWord(s string) bool { return s == wordNot || foldOf(s) != api.FoldNone }

// foldOf a word: FoldNone, if it tells of none.
func foldOf(s string) int {
	switch s {
	case "count":
		return api.FoldCount
	case "sum":
		return api.FoldSum
	case "least":
		return api.FoldLeast
	case "most":
		return api.FoldMost
	}
	return api.FoldNone
}

// opOf a sign: 0, if it is of no literal.
func opOf(s string) int {
	switch s {
	case "<":
		return api.OpLess
	case "<=":
		return api.OpMost
	case "=":
		return api.OpSame
	case "!=":
		return api.OpOther
	case "+":
		return api.OpAdd
	case "-":
		return api.OpSub
	case "*":
		return api.OpMul
	}
	return 0
}

func isTest(op int) bool { return api.OpLess <= op && op <= api.OpOther }

func isCalc(op int) bool { return api.OpAdd <= op && op <= api.OpMul }
