package token

import (
	"slices"
	"strings"
	"testing"

	"groundwork/api"
)

// draw numbers for texts that are put together at random; the same each time.
type draw uint64

func (d *draw) n(n int) int {
	*d = *d*6364136223846793005 + 1442695040888963407
	return int(uint64(*d) >> 33 % uint64(n))
}

func pick[T any](d *draw, l []T) T { return l[d.n(len(l))] }

func name(at int, s string) api.Token  { return api.Token{Kind: api.TokenName, At: at, Text: s} }
func vari(at int, s string) api.Token  { return api.Token{Kind: api.TokenVar, At: at, Text: s} }
func digit(at int, s string) api.Token { return api.Token{Kind: api.TokenNumber, At: at, Text: s} }
func mark(at int, s string) api.Token  { return api.Token{Kind: api.TokenSign, At: at, Text: s} }

// signs: all of them.
var signs = []string{":-", "<=", "!=", "(", ")", ",", ".", "<", "=", "+", "-", "*"}

// A1: ordinary texts.
func TestScan(t *testing.T) {
	for _, c := range []struct {
		text string
		want []api.Token
	}{
		{"", nil},
		{" \t\n \n", nil},
		{"a", []api.Token{name(0, "a")}},
		{"zZ09aA", []api.Token{name(0, "zZ09aA")}},
		{"Za9", []api.Token{vari(0, "Za9")}},
		{"not count", []api.Token{name(0, "not"), name(4, "count")}},
		{"0", []api.Token{digit(0, "0")}},
		{"10", []api.Token{digit(0, "10")}},
		{"0 0", []api.Token{digit(0, "0"), digit(2, "0")}},
		{"12ab", []api.Token{digit(0, "12"), name(2, "ab")}},
		{"1A", []api.Token{digit(0, "1"), vari(1, "A")}},
		{"-5", []api.Token{mark(0, "-"), digit(1, "5")}},
		{"p(X, 1).", []api.Token{name(0, "p"), mark(1, "("), vari(2, "X"), mark(3, ","), digit(5, "1"), mark(6, ")"), mark(7, ".")}},
		{"\t a\n:-\tB ", []api.Token{name(2, "a"), mark(4, ":-"), vari(7, "B")}},
		{"<=", []api.Token{mark(0, "<=")}},
		{"< =", []api.Token{mark(0, "<"), mark(2, "=")}},
		{"<==", []api.Token{mark(0, "<="), mark(2, "=")}},
		{"=<=", []api.Token{mark(0, "="), mark(1, "<=")}},
		{"!==", []api.Token{mark(0, "!="), mark(2, "=")}},
		{":--", []api.Token{mark(0, ":-"), mark(2, "-")}},
		{"..", []api.Token{mark(0, "."), mark(1, ".")}},
	} {
		l, at, e := Scan(c.text)
		if !slices.Equal(l, c.want) || at != 0 || e != api.OK {
			t.Errorf("Scan(%q) = %v %d %d, want %v 0 0", c.text, l, at, e, c.want)
		}
	}
}

// A1: remarks part tokens, up to the line feed or the text's end, whatever bytes they have.
func TestScanRemarks(t *testing.T) {
	for _, c := range []struct {
		text string
		want []api.Token
	}{
		{"%", nil},
		{"%\n", nil},
		{"% a (", nil},
		{"%%\n%", nil},
		{"a%b", []api.Token{name(0, "a")}},
		{"a%b\nc", []api.Token{name(0, "a"), name(4, "c")}},
		{"<%x\n=", []api.Token{mark(0, "<"), mark(4, "=")}},
		{"%\x00\r\xff!:;012345678\na", []api.Token{name(17, "a")}},
	} {
		l, at, e := Scan(c.text)
		if !slices.Equal(l, c.want) || at != 0 || e != api.OK {
			t.Errorf("Scan(%q) = %v %d %d, want %v 0 0", c.text, l, at, e, c.want)
		}
	}
}

// A1: each byte alone, and each sign.
func TestScanEachByte(t *testing.T) {
	kinds := map[int]string{
		api.TokenName:   "abcdefghijklmnopqrstuvwxyz",
		api.TokenVar:    "ABCDEFGHIJKLMNOPQRSTUVWXYZ",
		api.TokenNumber: "0123456789",
		api.TokenSign:   "(),.<=+-*",
	}
	for b := range 256 {
		s := string([]byte{byte(b)})
		var want []api.Token
		for k, of := range kinds {
			if strings.Contains(of, s) {
				want = []api.Token{{Kind: k, Text: s}}
			}
		}
		wantErr := api.OK
		if want == nil && !strings.Contains(" \t\n%", s) {
			wantErr = api.ErrForm
		}
		for _, ahead := range []string{"", "\n  "} {
			l, at, e := Scan(ahead + s)
			wantAt := 0
			if wantErr != api.OK {
				wantAt = len(ahead)
			}
			if len(want) > 0 {
				want[0].At = len(ahead)
			}
			if !slices.Equal(l, want) || at != wantAt || e != wantErr {
				t.Errorf("Scan(%q) = %v %d %d, want %v %d %d", ahead+s, l, at, e, want, wantAt, wantErr)
			}
		}
	}
	for _, s := range signs {
		if l, at, e := Scan(s); !slices.Equal(l, []api.Token{mark(0, s)}) || at != 0 || e != api.OK {
			t.Errorf("Scan(%q) = %v %d %d", s, l, at, e)
		}
	}
}

// A1: what goes on in a name, a variable, a number.
func TestScanGoesOn(t *testing.T) {
	const inWords = "abcdefghijklmnopqrstuvwxyzABCDEFGHIJKLMNOPQRSTUVWXYZ0123456789"
	for b := range 256 {
		c := string([]byte{byte(b)})
		for _, ahead := range []string{"a", "A", "1"} {
			goes := inWords
			if ahead == "1" {
				goes = "0123456789"
			}
			l, _, e := Scan(ahead + c)
			one := e == api.OK && len(l) == 1 && l[0].Text == ahead+c
			if one != strings.Contains(goes, c) {
				t.Errorf("Scan(%q) = %v %d", ahead+c, l, e)
			}
		}
	}
}

// A1: errors, where they are, and which is first.
func TestScanErrors(t *testing.T) {
	for _, c := range []struct {
		text string
		at   int
		err  api.Errno
	}{
		{":", 0, api.ErrForm},
		{"a :", 2, api.ErrForm},
		{": -", 0, api.ErrForm},
		{"!", 0, api.ErrForm},
		{"! =", 0, api.ErrForm},
		{"a\r", 1, api.ErrForm},
		{"a_b", 1, api.ErrForm},
		{"a(X) ; b", 5, api.ErrForm},
		{"x\xc3\xa9", 1, api.ErrForm},
		{"\x00", 0, api.ErrForm},
		{"00", 0, api.ErrForm},
		{"a 01", 2, api.ErrForm},
		{"0000000", 0, api.ErrForm},
		{"0000001", 0, api.ErrForm},
		{"00000000", 0, api.ErrMany}, // both: ErrMany is named first
		{"01234567", 0, api.ErrMany},
		{"01 12345678", 0, api.ErrForm},
		{"12345678 01", 0, api.ErrMany},
		{"a 12345678 ?", 2, api.ErrMany},
		{"a ? 12345678", 2, api.ErrForm},
		{"%?\n ?", 4, api.ErrForm},
	} {
		l, at, e := Scan(c.text)
		if len(l) != 0 || at != c.at || e != c.err {
			t.Errorf("Scan(%q) = %v %d %d, want none %d %d", c.text, l, at, e, c.at, c.err)
		}
	}
}

// A1: MaxText, MaxName, MaxDigits, and one beyond each.
func TestScanLimits(t *testing.T) {
	long := strings.Repeat("b", api.MaxName-1)
	digits := strings.Repeat("9", api.MaxDigits)
	for _, c := range []struct {
		text  string
		count int
		at    int
		err   api.Errno
	}{
		{"a" + long, 1, 0, api.OK},
		{"A" + long, 1, 0, api.OK},
		{digits, 1, 0, api.OK},
		{". a" + long + "b", 0, 2, api.ErrMany},
		{". A" + long + "0", 0, 2, api.ErrMany},
		{". a" + long + "A", 0, 2, api.ErrMany},
		{". " + digits + "9", 0, 2, api.ErrMany},
		{"1" + digits, 0, 0, api.ErrMany},
		{strings.Repeat(".", api.MaxText), api.MaxText, 0, api.OK},
		{strings.Repeat(" ", api.MaxText), 0, 0, api.OK},
		{"%" + strings.Repeat("?", api.MaxText-1), 0, 0, api.OK},
		{strings.Repeat(".", api.MaxText-1) + "?", 0, api.MaxText - 1, api.ErrForm},
		{strings.Repeat("x", api.MaxText), 0, 0, api.ErrMany},
		{strings.Repeat(".", api.MaxText+1), 0, 0, api.ErrMany},
		{strings.Repeat(" ", api.MaxText+1), 0, 0, api.ErrMany},
		{"?" + strings.Repeat(".", api.MaxText), 0, 0, api.ErrMany}, // both: too long is named first
		{strings.Repeat(".", api.MaxText) + "?", 0, 0, api.ErrMany},
	} {
		l, at, e := Scan(c.text)
		if len(l) != c.count || at != c.at || e != c.err {
			t.Errorf("Scan(%.20q of %d) = %d tokens, %d %d, want %d, %d %d", c.text, len(c.text), len(l), at, e, c.count, c.at, c.err)
		}
	}
}

// A2: ordinary lists, and wrong tokens.
func TestJoin(t *testing.T) {
	for _, c := range []struct {
		list []api.Token
		want string
		err  api.Errno
	}{
		{nil, "", api.OK},
		{[]api.Token{}, "", api.OK},
		{[]api.Token{name(0, "a")}, "a", api.OK},
		{[]api.Token{name(-7, "a"), mark(99, "("), vari(99, "X"), mark(0, ")"), mark(1<<62, ".")}, "a ( X ) .", api.OK},
		{[]api.Token{mark(0, "<"), mark(0, "=")}, "< =", api.OK},
		{[]api.Token{digit(0, "1"), digit(0, "2")}, "1 2", api.OK},
		{[]api.Token{name(0, "not"), digit(0, "0")}, "not 0", api.OK},
		{[]api.Token{name(0, strings.Repeat("a", api.MaxName))}, strings.Repeat("a", api.MaxName), api.OK},
		{[]api.Token{digit(0, strings.Repeat("1", api.MaxDigits))}, strings.Repeat("1", api.MaxDigits), api.OK},
		{[]api.Token{{}}, "", api.ErrForm},
		{[]api.Token{name(0, "")}, "", api.ErrForm},
		{[]api.Token{name(0, "A")}, "", api.ErrForm},
		{[]api.Token{vari(0, "a")}, "", api.ErrForm},
		{[]api.Token{digit(0, "a")}, "", api.ErrForm},
		{[]api.Token{mark(0, "1")}, "", api.ErrForm},
		{[]api.Token{{Kind: 0, Text: "a"}}, "", api.ErrForm},
		{[]api.Token{{Kind: 5, Text: "a"}}, "", api.ErrForm},
		{[]api.Token{{Kind: -1, Text: "a"}}, "", api.ErrForm},
		{[]api.Token{name(0, " a")}, "", api.ErrForm},
		{[]api.Token{name(0, "a ")}, "", api.ErrForm},
		{[]api.Token{name(0, "a%")}, "", api.ErrForm},
		{[]api.Token{name(0, "%\na")}, "", api.ErrForm},
		{[]api.Token{name(0, "a b")}, "", api.ErrForm},
		{[]api.Token{name(0, "a.")}, "", api.ErrForm},
		{[]api.Token{mark(0, "()")}, "", api.ErrForm},
		{[]api.Token{mark(0, ":")}, "", api.ErrForm},
		{[]api.Token{digit(0, "-1")}, "", api.ErrForm},
		{[]api.Token{digit(0, "01")}, "", api.ErrForm},
		{[]api.Token{name(0, strings.Repeat("a", api.MaxName+1))}, "", api.ErrForm},
		{[]api.Token{vari(0, strings.Repeat("A", api.MaxName+1))}, "", api.ErrForm},
		{[]api.Token{digit(0, strings.Repeat("1", api.MaxDigits+1))}, "", api.ErrForm},
		{[]api.Token{name(0, strings.Repeat("a", api.MaxText+1))}, "", api.ErrForm},
		{[]api.Token{name(0, "a"), name(0, "b"), name(0, "C")}, "", api.ErrForm},
	} {
		s, e := Join(c.list)
		if s != c.want || e != c.err {
			t.Errorf("Join(%.80v) = %q %d, want %q %d", c.list, s, e, c.want, c.err)
		}
	}
}

// A2: MaxText, and one beyond; a wrong token comes first.
func TestJoinLimit(t *testing.T) {
	l := slices.Repeat([]api.Token{mark(0, ".")}, api.MaxText/2)
	l[0] = mark(0, ":-")
	if s, e := Join(l); len(s) != api.MaxText || e != api.OK {
		t.Errorf("Join of %d bytes: %d bytes, %d", api.MaxText, len(s), e)
	}
	l[1] = mark(0, "<=")
	if s, e := Join(l); s != "" || e != api.ErrMany {
		t.Errorf("Join of one byte beyond: %d bytes, %d", len(s), e)
	}
	l = append(l, l...)
	if s, e := Join(l); s != "" || e != api.ErrMany {
		t.Errorf("Join of many: %d bytes, %d", len(s), e)
	}
	l[len(l)-1] = mark(0, "?")
	if s, e := Join(l); s != "" || e != api.ErrForm {
		t.Errorf("Join of many, the last one wrong: %d bytes, %d", len(s), e)
	}
}

// tokens put together at random, all of them right.
func (d *draw) tokens() []api.Token {
	var l []api.Token
	for range d.n(30) {
		t := api.Token{At: d.n(9) - 4}
		switch d.n(4) {
		case 0:
			t.Kind, t.Text = api.TokenName, pick(d, []string{"a", "not", "count", "z9Z", "abcdefghijkl"})
		case 1:
			t.Kind, t.Text = api.TokenVar, pick(d, []string{"X", "Z0", "Not", "ABCDEFGHIJKL"})
		case 2:
			t.Kind, t.Text = api.TokenNumber, pick(d, []string{"0", "7", "10", "9999999"})
		default:
			t.Kind, t.Text = api.TokenSign, pick(d, signs)
		}
		l = append(l, t)
	}
	return l
}

// alike: are tokens the same, but for where they begin?
func alike(l, m []api.Token) bool {
	return slices.EqualFunc(l, m, func(a, b api.Token) bool { return a.Kind == b.Kind && a.Text == b.Text })
}

// A3: what is joined is scanned as it was.
func TestJoinedIsScanned(t *testing.T) {
	d := draw(1)
	for range 2000 {
		l := d.tokens()
		s, e := Join(l)
		if e != api.OK {
			t.Fatalf("Join(%v) = %d", l, e)
		}
		m, at, e := Scan(s)
		if !alike(l, m) || at != 0 || e != api.OK {
			t.Fatalf("%v is joined to %q, and that is scanned as %v %d %d", l, s, m, at, e)
		}
	}
}

// text of bytes at random, most of them such as tokens have.
func (d *draw) text() string {
	const often = "abzABZ019:-<=!(),.+* \t\n%"
	b := make([]byte, d.n(25))
	for i := range b {
		b[i] = often[d.n(len(often))]
		if d.n(100) == 0 {
			b[i] = byte(d.n(256))
		}
	}
	return string(b)
}

// A1, A3, P1: of any text the tokens stand where they say, only what parts tokens lies between, and they are joined to the same ones; or there is one error, and all ahead of it is right.
func TestScanAnyText(t *testing.T) {
	d := draw(2)
	for range 20000 {
		s := d.text()
		l, at, e := Scan(s)
		if e != api.OK {
			if len(l) != 0 {
				t.Fatalf("Scan(%q) has an error, and tokens", s)
			}
			if _, _, e := Scan(s[:at]); e != api.OK {
				t.Fatalf("Scan(%q) has its error at %d, but there is one ahead", s, at)
			}
			continue
		}
		end := 0
		for _, x := range l {
			if x.At < end || !strings.HasPrefix(s[x.At:], x.Text) {
				t.Fatalf("Scan(%q) = %v", s, l)
			}
			if m, _, e := Scan(s[end:x.At]); len(m) != 0 || e != api.OK {
				t.Fatalf("Scan(%q) = %v: something is left out ahead of %d", s, l, x.At)
			}
			end = x.At + len(x.Text)
		}
		j, e := Join(l)
		m, _, f := Scan(j)
		if at != 0 || e != api.OK || f != api.OK || !alike(l, m) {
			t.Fatalf("Scan(%q) = %v %d, joined to %q %d, and that scanned as %v %d", s, l, at, j, e, m, f)
		}
	}
}

// P2: what is handed in is only read, the spare room too; what is answered is the caller's.
func TestOnlyReads(t *testing.T) {
	room := []api.Token{name(3, "a"), mark(5, "."), name(0, "spare"), vari(1, "Spare")}
	was := slices.Clone(room)
	Join(room[:2])
	if !slices.Equal(room, was) {
		t.Errorf("Join has left %v", room)
	}
	const s = "a(X) :- b(X)."
	l, _, _ := Scan(s)
	m := slices.Clone(l)
	clear(l[:cap(l)])
	if n, _, _ := Scan(s); !slices.Equal(n, m) {
		t.Errorf("Scan sees what was done with an earlier answer: %v", n)
	}
}

// P3: the same each time, whatever was asked between.
func TestSameEachTime(t *testing.T) {
	d := draw(3)
	var texts []string
	for range 200 {
		texts = append(texts, d.text())
	}
	type answer struct {
		list []api.Token
		at   int
		err  api.Errno
	}
	first := map[string]answer{}
	for _, s := range texts {
		l, at, e := Scan(s)
		first[s] = answer{l, at, e}
	}
	slices.Reverse(texts)
	for _, s := range texts {
		l, at, e := Scan(s)
		if f := first[s]; !slices.Equal(l, f.list) || at != f.at || e != f.err {
			t.Errorf("Scan(%q) = %v %d %d, and was %v", s, l, at, e, f)
		}
	}
}
