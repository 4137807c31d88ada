package tree

import (
	"strconv"

	"groundwork/api"
)

// place of the first token that can't stand where it does.
type place int

// parser goes through the tokens of a text.
type parser struct {
	tokens []api.Token
	next   int
	end    int // of the text: what is told of, if more must come
}

// parse tokens of a text that ends at a place: its tree, which may yet have too many of something.
func parse(l []api.Token, end int) (t api.Tree, at int, e api.Errno) {
	defer func() {
		if r := recover(); r != nil {
			t, at, e = api.Tree{}, int(r.(place)), api.ErrForm
		}
	}()
	p := &parser{tokens: l, end: end}
	for p.next < len(p.tokens) {
		t.Rules = append(t.Rules, p.rule())
	}
	return t, 0, api.OK
}

// peek at the next token; behind the last one, at one of no kind at the text's end.
func (p *parser) peek() api.Token {
	if p.next < len(p.tokens) {
		return p.tokens[p.next]
	}
	return api.Token{At: p.end}
}

func (p *parser) giveUp() { panic(place(p.peek().At)) }

// take the next token, if it is this text: kinds have no texts in common.
func (p *parser) take(text string) bool {
	if p.peek().Text != text {
		return false
	}
	p.next++
	return true
}

func (p *parser) must(text string) {
	if !p.take(text) {
		p.giveUp()
	}
}

func (p *parser) rule() api.TreeRule {
	r := api.TreeRule{At: p.peek().At}
	r.Name = p.name()
	r.Terms, r.Fold = p.terms(true)
	if r.Fold == api.FoldNone && p.take(".") {
		return r
	}
	p.must(":-")
	r.Body = append(r.Body, p.literal())
	for p.take(",") {
		r.Body = append(r.Body, p.literal())
	}
	p.must(".")
	return r
}

func (p *parser) name() string {
	t := p.peek()
	if t.Kind != api.TokenName || isWord(t.Text) {
		p.giveUp()
	}
	p.next++
	return t.Text
}

// terms in brackets, and how the last one is folded, if one may be.
func (p *parser) terms(mayFold bool) ([]api.TreeTerm, int) {
	p.must("(")
	if p.take(")") {
		return nil, api.FoldNone
	}
	var l []api.TreeTerm
	fold := api.FoldNone
	// Behind a fold no term may come.
	for more := true; more; more = fold == api.FoldNone && p.take(",") {
		if mayFold {
			fold = p.fold()
		}
		l = append(l, p.term())
	}
	p.must(")")
	return l, fold
}

// fold, if the next token is one; else FoldNone.
func (p *parser) fold() int {
	f := foldOf(p.peek().Text)
	if f != api.FoldNone {
		p.next++
	}
	return f
}

func (p *parser) term() api.TreeTerm {
	switch t := p.peek(); t.Kind {
	case api.TokenVar:
		p.next++
		return api.TreeTerm{Var: t.Text}
	case api.TokenNumber:
		return api.TreeTerm{N: p.number()}
	}
	p.must("-")
	if p.peek().Text == "0" {
		p.giveUp()
	}
	return api.TreeTerm{N: -p.number()}
}

func (p *parser) number() int {
	t := p.peek()
	if t.Kind != api.TokenNumber {
		p.giveUp()
	}
	p.next++
	n, _ := strconv.Atoi(t.Text) // can't fail: Scan lets no more than MaxDigits digits through
	return n
}

func (p *parser) literal() api.TreeLit {
	l := api.TreeLit{At: p.peek().At}
	switch {
	case p.take(wordNot):
		l.Kind = api.LitNot
	case p.peek().Kind == api.TokenName:
		l.Kind = api.LitYes
	default:
		return p.reckoning(l.At)
	}
	l.Name = p.name()
	l.Terms, _ = p.terms(false)
	return l
}

// reckoning: a LitTest, or a LitCalc.
func (p *parser) reckoning(at int) api.TreeLit {
	l := api.TreeLit{Kind: api.LitTest, At: at}
	l.Terms = append(l.Terms, p.term())
	l.Op = p.op()
	l.Terms = append(l.Terms, p.term())
	if isCalc(l.Op) {
		l.Kind = api.LitCalc
		p.must("=")
		l.Terms = append(l.Terms, p.term())
	}
	return l
}

func (p *parser) op() int {
	op := opOf(p.peek().Text)
	if op == 0 {
		p.giveUp()
	}
	p.next++
	return op
}
