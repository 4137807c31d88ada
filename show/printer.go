package show

import (
	"strconv"

	"groundwork/api"
)

// text that grows.
type text struct{ bytes []byte }

func (t *text) put(s string) { t.bytes = append(t.bytes, s...) }

func (t *text) whole() string { return string(t.bytes) }

// printer of trees that Check (chapter 2) has passed.
type printer struct{ text }

// withCommas puts the things of a list one by one, a comma between.
func withCommas[T any](p *printer, l []T, put func(i int, thing T)) {
	for i, thing := range l {
		if i > 0 {
			p.put(", ")
		}
		put(i, thing)
	}
}

func (p *printer) rule(r api.TreeRule) {
	p.atom(r.Name, r.Terms, r.Fold)
	if len(r.Body) > 0 {
		p.put(" :- ")
		withCommas(p, r.Body, func(_ int, l api.TreeLit) { p.literal(l) })
	}
	p.put(".\n")
}

// atom: a name and its terms, the last one folded.
func (p *printer) atom(name string, terms []api.TreeTerm, fold int) {
	p.put(name)
	p.put("(")
	withCommas(p, terms, func(i int, t api.TreeTerm) {
		if i == len(terms)-1 {
			p.put(foldAhead(fold))
		}
		p.term(t)
	})
	p.put(")")
}

func (p *printer) literal(l api.TreeLit) {
	switch l.Kind {
	case api.LitYes:
		p.atom(l.Name, l.Terms, api.FoldNone)
	case api.LitNot:
		p.put("not ")
		p.atom(l.Name, l.Terms, api.FoldNone)
	default:
		p.reckoning(l)
	}
}

// reckoning: a LitTest, or a LitCalc, which has one term more.
func (p *printer) reckoning(l api.TreeLit) {
	p.term(l.Terms[0])
	p.put(" " + sign(l.Op) + " ")
	p.term(l.Terms[1])
	if l.Kind == api.LitCalc {
		p.put(" = ")
		p.term(l.Terms[2])
	}
}

func (p *printer) term(t api.TreeTerm) {
	if t.Var != "" {
		p.put(t.Var)
		return
	}
	p.put(strconv.Itoa(t.N))
}

// foldAhead of a term: nothing, if it is not folded.
func foldAhead(fold int) string {
	switch fold {
	case api.FoldCount:
		return "count "
	case api.FoldSum:
		return "sum "
	case api.FoldLeast:
		return "least "
	case api.FoldMost:
		return "most "
	}
	return ""
}

func sign(op int) string {
	switch op {
	case api.OpLess:
		return "<"
	case api.OpMost:
		return "<="
	case api.OpSame:
		return "="
	case api.OpOther:
		return "!="
	case api.OpAdd:
		return "+"
	case api.OpSub:
		return "-"
	}
	return "*"
}
