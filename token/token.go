// Package token: tokens: see doc/01-token.md.
package token

import (
	"strings"

	"groundwork/api"
)

// place in a text where scanning gives up, and why.
type place struct {
	at  int
	why api.Errno
}

// Scan a text.
func Scan(s string) ([]api.Token, int, api.Errno) {
	l, gave := scan(s)
	return l, gave.at, gave.why
}

// Join tokens.
func Join(l []api.Token) (string, api.Errno) {
	var b strings.Builder
	for i, t := range l {
		if !alone(t) {
			return "", api.ErrForm
		}
		if i > 0 {
			b.WriteByte(' ')
		}
		b.WriteString(t.Text)
	}
	// Only here: a wrong token anywhere in the list comes ahead of too many bytes.
	if b.Len() > api.MaxText {
		return "", api.ErrMany
	}
	return b.String(), api.OK
}

// alone: is a token the only one of its text?
func alone(t api.Token) bool {
	l, _, e := Scan(t.Text)
	return e == api.OK && len(l) == 1 && l[0].Kind == t.Kind && l[0].Text == t.Text
}

// scan a text: its tokens, or the place where it gave up.
func scan(s string) (l []api.Token, gave place) {
	defer func() {
		if r := recover(); r != nil {
			l, gave = nil, r.(place)
		}
	}()
	if len(s) > api.MaxText {
		panic(place{0, api.ErrMany})
	}
	for at := skip(s, 0); at < len(s); {
		t := tokenAt(s, at)
		l = append(l, t)
		at = skip(s, at+len(t.Text))
	}
	return l, place{}
}

// skip what parts tokens.
func skip(s string, at int) int {
	for at < len(s) {
		switch s[at] {
		case ' ', '\t', '\n':
			at++
		case '%':
			at = run(s, at, func(c byte) bool { return c != '\n' })
		default:
			return at
		}
	}
	return at
}

// run: where the bytes end, from a place on, that go on.
func run(s string, at int, goesOn func(c byte) bool) int {
	for at < len(s) && goesOn(s[at]) {
		at++
	}
	return at
}

// tokenAt a place in a text.
func tokenAt(s string, at int) api.Token {
	c := s[at]
	switch {
	case isSmall(c):
		return word(s, at, api.TokenName)
	case isGreat(c):
		return word(s, at, api.TokenVar)
	case isDigit(c):
		return number(s, at)
	}
	return sign(s, at)
}

// word: a name or a variable.
func word(s string, at, kind int) api.Token {
	end := run(s, at, func(c byte) bool { return isSmall(c) || isGreat(c) || isDigit(c) })
	if end-at > api.MaxName {
		panic(place{at, api.ErrMany})
	}
	return cut(s, at, end, kind)
}

func number(s string, at int) api.Token {
	end := run(s, at, isDigit)
	if end-at > api.MaxDigits {
		panic(place{at, api.ErrMany})
	}
	if s[at] == '0' && end-at > 1 {
		panic(place{at, api.ErrForm})
	}
	return cut(s, at, end, api.TokenNumber)
}

func sign(s string, at int) api.Token {
	n := signLength(s[at:])
	if n == 0 {
		panic(place{at, api.ErrForm})
	}
	return cut(s, at, at+n, api.TokenSign)
}

// signLength: how many bytes the sign has with which a text begins; 0, if it begins with none.
func signLength(s string) int {
	for _, two := range [...]string{":-", "<=", "!="} {
		if strings.HasPrefix(s, two) {
			return 2
		}
	}
	if strings.IndexByte("(),.<=+-*", s[0]) >= 0 {
		return 1
	}
	return 0
}

// cut a token out of a text. Its Text is a copy: what is answered shares no memory with what was handed in.
func cut(s string, at, end, kind int) api.Token {
	return api.Token{Kind: kind, At: at, Text: strings.Clone(s[at:end])}
}

func isSmall(c byte) bool { return 'a' <= c && c <= 'z' }

func isGreat(c byte) bool { return 'A' <= c && c <= 'Z' }

func isDigit(c byte) bool { return '0' <= c && c <= '9' }
