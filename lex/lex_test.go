package lex_test

import (
	"math"
	"math/rand"
	"regexp"
	"slices"
	"strings"
	"testing"

	"abacist/api"
	"abacist/lex"
	"abacist/numtext"
)

// number is the number that a text tells.
func number(t *testing.T, s string) api.Rat {
	t.Helper()
	r, e := numtext.Decimal(s)
	if e != api.OK {
		t.Fatalf("%q is no number: %d", s, e)
	}
	return r
}

// token is a token of a kind, with its text, at a place; of a Number its number.
func token(t *testing.T, kind int, text string, at int) lex.Token {
	t.Helper()
	want := lex.Token{Kind: kind, Text: text, At: at}
	if kind == lex.Number {
		want.Num = number(t, text)
	}
	return want
}

// The kinds' numbers, as the chapter lists them.
func TestKinds(t *testing.T) {
	for want, kind := range []int{lex.End, lex.Number, lex.Text, lex.Word, lex.Op, lex.Open, lex.Close, lex.Comma, lex.Colon, lex.Bang, lex.Fault} {
		if kind != want {
			t.Errorf("kind %d: %d", want, kind)
		}
	}
}

// first are texts that begin with a token: its kind, its bytes, and what is behind it.
var first = []struct {
	kind   int
	piece  string
	behind string
}{
	{lex.Number, "0", ""}, {lex.Number, "9", "A"}, {lex.Number, "007", "$"}, {lex.Number, "1234567890", " 1"}, {lex.Number, "2.5", ""}, {lex.Number, "2.50", ".1"}, {lex.Number, "1.0", "e5"}, {lex.Number, "1", "."}, {lex.Number, "1", ".A"}, {lex.Number, "1", "..5"}, {lex.Number, "1", ". 5"}, {lex.Number, "10", "%"}, {lex.Number, "1", "_"}, {lex.Number, "1.5", "\xff"}, {lex.Number, "1", "/2"}, {lex.Number, "1.2", ","},
	{lex.Word, "A1", "+2.5"}, {lex.Word, "SUM", "(A1)"}, {lex.Word, "$A$1", ":B2"}, {lex.Word, "Sheet_1", "!A1"}, {lex.Word, "_", ""}, {lex.Word, "$", " "}, {lex.Word, "$$", "#"}, {lex.Word, "a", "\""}, {lex.Word, "Z9z_$0", "."}, {lex.Word, "TRUE", "="}, {lex.Word, "x", "-y"}, {lex.Word, "A", "É"}, {lex.Word, "A", "@"}, {lex.Word, "Az", "["}, {lex.Word, "aZ", "{"}, {lex.Word, "b", "`"}, {lex.Word, "B", "\x00"}, {lex.Word, "e5", "/"}, {lex.Word, "m", "?"},
	{lex.Op, "<>", ""}, {lex.Op, "<=", "="}, {lex.Op, ">=", ">"}, {lex.Op, "+", "+"}, {lex.Op, "-", "1"}, {lex.Op, "*", "*"}, {lex.Op, "/", "="}, {lex.Op, "^", "2"}, {lex.Op, "&", "&"}, {lex.Op, "=", "="}, {lex.Op, "=", ">"}, {lex.Op, "=", "<"}, {lex.Op, "<", ""}, {lex.Op, "<", "<"}, {lex.Op, "<", " ="}, {lex.Op, "<", " >"}, {lex.Op, ">", ""}, {lex.Op, ">", "<"}, {lex.Op, ">", ">"}, {lex.Op, ">", " ="}, {lex.Op, "%", "%"}, {lex.Op, "<>", "="},
	{lex.Open, "(", "("}, {lex.Close, ")", ")"}, {lex.Comma, ",", ","}, {lex.Colon, ":", ":"}, {lex.Bang, "!", "!"}, {lex.Bang, "!", "="},
	{lex.Fault, "#DIV/0!", "!"}, {lex.Fault, "#VALUE!", "#"}, {lex.Fault, "#REF!", "A1"}, {lex.Fault, "#NAME?", ""}, {lex.Fault, "#NUM!", " "}, {lex.Fault, "#N/A", "!"}, {lex.Fault, "#CIRC!", ")"}, {lex.Fault, "#N/A", "ME?"},
}

// P12.1: what tokens begin with, and how many bytes they have; blanks ahead are none of theirs.
func TestNext(t *testing.T) {
	for _, f := range first {
		for _, ahead := range []string{"", " ", "    "} {
			for _, before := range []string{"", "A", "\"@", "12"} {
				s := before + ahead + f.piece + f.behind
				begin := len(before + ahead)
				want := token(t, f.kind, f.piece, begin)
				got, end, e := lex.Next(s, len(before))
				if got != want || end != begin+len(f.piece) || e != api.OK {
					t.Errorf("Next of %q at %d: %+v %d %d, want %+v", s, len(before), got, end, e, want)
				}
			}
		}
	}
}

// P12.1: a Text tells what is between its quotes, two of which stand for one.
func TestNextOfTexts(t *testing.T) {
	for _, f := range []struct{ piece, tells, behind string }{
		{`""`, "", ""}, {`""`, "", " \""}, {`"a"`, "a", "b"}, {`"a b"`, "a b", " "}, {`" a "`, " a ", "\xff"}, {`""""`, `"`, ""}, {`""""`, `"`, "1"}, {`"a""b"`, `a"b`, "+"}, {`"a"""`, `a"`, ""}, {`"""a"`, `"a`, ")"}, {`""""""`, `""`, " \"\""}, {`""","""`, `","`, ","}, {`"#N/A"`, "#N/A", ""}, {`"'~!@[{\"`, `'~!@[{\`, "`"},
		{`"` + strings.Repeat("x", 200) + `"`, strings.Repeat("x", 200), ""}, {`"` + strings.Repeat(`""`, 200) + `"`, strings.Repeat(`"`, 200), "~"},
	} {
		if got, end, e := lex.Next(" "+f.piece+f.behind, 0); got != token(t, lex.Text, f.tells, 1) || end != 1+len(f.piece) || e != api.OK {
			t.Errorf("Next of %q: %+v %d %d, want %q", f.piece+f.behind, got, end, e, f.tells)
		}
	}
}

// P12.1: the End is at the text's length.
func TestNextAtTheEnd(t *testing.T) {
	for s, at := range map[string]int{"": 0, " ": 0, "   ": 1, "A1": 2, "A1 ": 2, "A1  ": 4, "@": 1, "\"": 1} {
		if got, end, e := lex.Next(s, at); got != token(t, lex.End, "", len(s)) || end != len(s) || e != api.OK {
			t.Errorf("Next of %q at %d: %+v %d %d", s, at, got, end, e)
		}
	}
}

// P12.1: a place may be within what is a token from another place on.
func TestNextFromWithin(t *testing.T) {
	s := `A1<>"x""y"#N/A`
	for at, want := range map[int]lex.Token{1: token(t, lex.Number, "1", 1), 3: token(t, lex.Op, ">", 3), 5: token(t, lex.Word, "x", 5), 6: token(t, lex.Text, "", 6), 7: token(t, lex.Text, "y", 7), 11: token(t, lex.Word, "N", 11), 14: token(t, lex.End, "", 14)} {
		if got, _, e := lex.Next(s, at); got != want || e != api.OK {
			t.Errorf("Next of %q at %d: %+v %d, want %+v", s, at, got, e, want)
		}
	}
}

// P12.1: ErrArg of a place that is none, whatever the text is.
func TestNextOfNoPlace(t *testing.T) {
	for _, s := range []string{"", " ", "A1", "@", "\"", strings.Repeat("9", 500)} {
		for _, at := range []int{-1, len(s) + 1, -len(s) - 1, math.MaxInt, math.MinInt} {
			if got, end, e := lex.Next(s, at); got != (lex.Token{}) || end != 0 || e != api.ErrArg {
				t.Errorf("Next of %.10q at %d: %+v %d %d", s, at, got, end, e)
			}
		}
	}
}

// refused tells whether Next refuses what begins s with an error, and tells where it begins.
func refused(t *testing.T, s string, want api.Errno) {
	t.Helper()
	for _, ahead := range []string{"", "  ", "A1+ "} {
		at := min(len(ahead), 3)
		got, place, e := lex.Next(ahead+s, at)
		if got != (lex.Token{}) || place != len(ahead) || e != want {
			t.Errorf("Next of %.20q at %d: %+v %d %d, want %d %d", ahead+s, at, got, place, e, len(ahead), want)
		}
	}
}

// P12.1: ErrText of what is no token.
func TestNextOfNoToken(t *testing.T) {
	for b := range 256 {
		if !strings.ContainsRune(" \"(),:!+-*/^&=<>%$_0123456789ABCDEFGHIJKLMNOPQRSTUVWXYZabcdefghijklmnopqrstuvwxyz", rune(b)) {
			refused(t, string([]byte{byte(b)}), api.ErrText)
			refused(t, string([]byte{byte(b)})+"1", api.ErrText)
			refused(t, string([]byte{byte(b)})+"A1", api.ErrText)
		}
	}
	for _, s := range []string{"#", "##N/A", "#N", "#N/", "#N/B", "#n/a", "#DIV/0", "#DIV/1!", "#REF", "#REF?", "#NAME!", "#NAME", "# N/A", "#NUM", "#CIRC", "#circ!", "#VALUE", "#VALUE?", ".5", "É", "１", "Ａ", "\t1", "\n", "\u00a01"} {
		refused(t, s, api.ErrText)
	}
}

// P12.1: ErrText of a Text that has no end, or that no value can be.
func TestNextOfWrongTexts(t *testing.T) {
	for _, s := range []string{`"`, `"a`, `"""`, `"a""`, `"""""`, `"a""b`, `"a""b""`, `"""a`, `" `, `"A1+"" `} {
		refused(t, s, api.ErrText)
	}
	for b := range 256 {
		if b < 32 || b > 126 {
			refused(t, `"`+string([]byte{byte(b)})+`"`, api.ErrText)
			refused(t, `"a`+string([]byte{byte(b)})+`b"+1`, api.ErrText)
		}
	}
	for _, s := range []string{strings.Repeat("x", 201), strings.Repeat(`""`, 201), strings.Repeat("x", 199) + `""""`, strings.Repeat("x", 100_000)} {
		refused(t, `"`+s+`"`, api.ErrText)
	}
	refused(t, `"`+strings.Repeat(`""`, 1_000_000), api.ErrText)
}

// most is the greatest number that there is, 2^256 - 1.
const most = "115792089237316195423570985008687907853269984665640564039457584007913129639935"

// P12.1: ErrNum and ErrLong, as numtext.Decimal refuses a number.
func TestNextOfWrongNumbers(t *testing.T) {
	for _, s := range []string{most[:77] + "6", most + "0", most + ".1", "0." + strings.Repeat("0", 255) + "1", "1." + strings.Repeat("3", 110), strings.Repeat("9", 400)} {
		refused(t, s, api.ErrNum)
		refused(t, s+"A", api.ErrNum)
		refused(t, s+".", api.ErrNum)
	}
	for _, s := range []string{strings.Repeat("0", 401), strings.Repeat("0", 400) + ".0", "1." + strings.Repeat("0", 399), strings.Repeat("9", 401), strings.Repeat("9", 100_000)} {
		refused(t, s, api.ErrLong)
		refused(t, s+" 1", api.ErrLong)
	}
	for _, s := range []string{most, "0" + most, most + ".0", strings.Repeat("0", 400), "1." + strings.Repeat("0", 398), strings.Repeat("0", 398) + ".5"} {
		if got, end, e := lex.Next(s+".", 0); got != token(t, lex.Number, s, 0) || end != len(s) || e != api.OK {
			t.Errorf("Next of %.20q: %+v %d %d", s, got, end, e)
		}
	}
}

// P12.2: All, the chapter's example first.
func TestAll(t *testing.T) {
	for s, want := range map[string][]lex.Token{
		"A1+2.5":     {token(t, lex.Word, "A1", 0), token(t, lex.Op, "+", 2), token(t, lex.Number, "2.5", 3), token(t, lex.End, "", 6)},
		"":           {token(t, lex.End, "", 0)},
		"   ":        {token(t, lex.End, "", 3)},
		" 1 ":        {token(t, lex.Number, "1", 1), token(t, lex.End, "", 3)},
		"1A<>=#N/A!": {token(t, lex.Number, "1", 0), token(t, lex.Word, "A", 1), token(t, lex.Op, "<>", 2), token(t, lex.Op, "=", 4), token(t, lex.Fault, "#N/A", 5), token(t, lex.Bang, "!", 9), token(t, lex.End, "", 10)},
		`F("a""b",S!$A:B)`: {token(t, lex.Word, "F", 0), token(t, lex.Open, "(", 1), token(t, lex.Text, `a"b`, 2), token(t, lex.Comma, ",", 8), token(t, lex.Word, "S", 9), token(t, lex.Bang, "!", 10), token(t, lex.Word, "$A", 11),
			token(t, lex.Colon, ":", 13), token(t, lex.Word, "B", 14), token(t, lex.Close, ")", 15), token(t, lex.End, "", 16)},
	} {
		if got, place, e := lex.All(s); !slices.Equal(got, want) || place != 0 || e != api.OK {
			t.Errorf("All of %q: %+v %d %d, want %+v", s, got, place, e, want)
		}
	}
}

// P12.2: the place and the error of the first token that has one.
func TestAllRefuses(t *testing.T) {
	great := most + "0"
	for _, c := range []struct {
		s     string
		place int
		e     api.Errno
	}{
		{"@", 0, api.ErrText}, {"A1 + @", 5, api.ErrText}, {"1.", 1, api.ErrText}, {"1.5.2", 3, api.ErrText}, {`A1&"x`, 3, api.ErrText}, {`"a" "`, 4, api.ErrText}, {"#N/A #N/B", 5, api.ErrText}, {"1+" + great, 2, api.ErrNum}, {"1+" + great + "@", 2, api.ErrNum}, {"@" + great, 0, api.ErrText}, {`"\` + "\x00" + `"` + great, 0, api.ErrText}, {strings.Repeat("9", 300), 0, api.ErrNum}, {strings.Repeat(" ", 299) + "@", 299, api.ErrText},
	} {
		if got, place, e := lex.All(c.s); len(got) != 0 || place != c.place || e != c.e {
			t.Errorf("All of %.20q: %+v %d %d, want %d %d", c.s, got, place, e, c.place, c.e)
		}
	}
}

// P12.2: ErrLong of more than 300 bytes, whatever they are.
func TestAllAtItsLimit(t *testing.T) {
	for _, s := range []string{"1", " ", "A", "+", "(", strings.Repeat("1+", 150)} {
		long := strings.Repeat(s, 301)[:301]
		if got, place, e := lex.All(long); len(got) != 0 || place != 0 || e != api.ErrLong {
			t.Errorf("All of 301 bytes of %q: %d %d", s, place, e)
		}
		if got, place, e := lex.All(long[:300]); s != "1" && (len(got) == 0 || place != 0 || e != api.OK) {
			t.Errorf("All of 300 bytes of %q: %d %d", s, place, e)
		}
	}
	for _, s := range []string{strings.Repeat("@", 301), "\"" + strings.Repeat("a", 300), strings.Repeat("9", 1_000_000)} {
		if got, place, e := lex.All(s); len(got) != 0 || place != 0 || e != api.ErrLong {
			t.Errorf("All of %d bytes: %d %d", len(s), place, e)
		}
	}
}

// form is the form of each token, blanks ahead; the groups are the kinds from Number to Fault, the marks' kinds one group.
var form = regexp.MustCompile(`\A *(?:([0-9]+(?:\.[0-9]+)?)|("(?:[^"]|"")*")|([A-Za-z$_][A-Za-z0-9$_]*)|(<>|<=|>=|[-+*/^&=<>%])|([(),:!])|(#DIV/0!|#VALUE!|#REF!|#NAME\?|#NUM!|#N/A|#CIRC!))`)

// kinds are the kinds of form's groups.
var kinds = []int{lex.Number, lex.Text, lex.Word, lex.Op, lex.Open, lex.Fault}

// expected is the first token of s behind at, and where it ends, found in another way; false, if there is none.
func expected(t *testing.T, s string, at int) (lex.Token, int, bool) {
	if rest := strings.TrimLeft(s[at:], " "); rest == "" {
		return token(t, lex.End, "", len(s)), len(s), true
	}
	p := form.FindStringSubmatchIndex(s[at:])
	for i, kind := range kinds {
		if p == nil || p[2*i+2] < 0 {
			continue
		}
		begin, end := at+p[2*i+2], at+p[2*i+3]
		text := s[begin:end]
		switch kind {
		case lex.Open:
			kind += strings.Index("(),:!", text)
		case lex.Text:
			// A quote behind it is one of two, and it has no end.
			if strings.HasPrefix(s[end:], `"`) {
				return lex.Token{}, 0, false
			}
			text = strings.ReplaceAll(text[1:len(text)-1], `""`, `"`)
		}
		return token(t, kind, text, begin), end, true
	}
	return lex.Token{}, 0, false
}

// pieces are what texts are made of by chance.
var pieces = []string{" ", "  ", "1", "0", "25", ".", "\"", "\"", "\"\"", "A", "b", "$", "_", "#", "#N/A", "#REF!", "N/A", "(", ")", ",", ":", "!", "+", "-", "*", "/", "^", "&", "=", "<", ">", "<>", "%", "SUM(", "A1", "@"}

// chance is a text of pieces, by chance.
func chance(r *rand.Rand) string {
	s := ""
	for range r.Intn(12) {
		s += pieces[r.Intn(len(pieces))]
	}
	return s
}

// P12.1, P12.2: tokens by chance, held against their form; P12.3: they do not overlap, nothing but blanks is between them.
func TestByChance(t *testing.T) {
	r := rand.New(rand.NewSource(12))
	for range 50_000 {
		s := chance(r)
		l, place, e := lex.All(s)
		at, n := 0, 0
		for {
			want, end, ok := expected(t, s, at)
			if !ok {
				begin := len(s) - len(strings.TrimLeft(s[at:], " "))
				if len(l) != 0 || place != begin || e != api.ErrText {
					t.Fatalf("All of %q: %+v %d %d, want no token at %d", s, l, place, e, begin)
				}
				break
			}
			got, gotEnd, gotErr := lex.Next(s, at)
			if got != want || gotEnd != end || gotErr != api.OK {
				t.Fatalf("Next of %q at %d: %+v %d %d, want %+v %d", s, at, got, gotEnd, gotErr, want, end)
			}
			if e == api.OK && (n >= len(l) || l[n] != want) {
				t.Fatalf("All of %q: %+v, want %+v at %d", s, l, want, n)
			}
			at, n = end, n+1
			if want.Kind == lex.End {
				if e != api.OK || place != 0 || n != len(l) {
					t.Fatalf("All of %q: %+v %d %d, want %d tokens", s, l, place, e, n)
				}
				break
			}
		}
	}
}

// again is a token's text as a formula has it.
func again(t lex.Token) string {
	if t.Kind == lex.Text {
		return `"` + strings.ReplaceAll(t.Text, `"`, `""`) + `"`
	}
	return t.Text
}

// P12.3: tokens told again, one blank between, are the same.
func TestToldAgain(t *testing.T) {
	r := rand.New(rand.NewSource(3))
	told := 0
	for range 50_000 {
		l, _, e := lex.All(chance(r))
		if e != api.OK {
			continue
		}
		told++
		var texts []string
		for _, x := range l {
			texts = append(texts, again(x))
		}
		s := strings.Join(texts, " ")
		m, place, e := lex.All(s)
		if len(m) != len(l) || place != 0 || e != api.OK {
			t.Fatalf("All of %q: %+v %d %d", s, m, place, e)
		}
		for i := range m {
			m[i].At = l[i].At
		}
		if !slices.Equal(l, m) {
			t.Fatalf("All of %q: %+v, want %+v", s, m, l)
		}
	}
	if told < 1000 {
		t.Errorf("%d texts were told again", told)
	}
}

// Rule 4: what is written into an answer is seen by no later one.
func TestAllIsNew(t *testing.T) {
	l, _, _ := lex.All("A1+2")
	clear(l)
	_ = append(l[:0], lex.Token{Kind: lex.Fault})
	if m, _, _ := lex.All("A1+2"); len(m) != 4 || m[0] != token(t, lex.Word, "A1", 0) {
		t.Errorf("All: %+v", m)
	}
}
