package value_test

import (
	"math"
	"strings"
	"testing"

	"abacist/api"
	"abacist/rat"
	"abacist/value"
	"abacist/whole"
)

// names are the faults' names, as the chapter tells them.
var names = map[int]string{1: "#DIV/0!", 2: "#VALUE!", 3: "#REF!", 4: "#NAME?", 5: "#NUM!", 6: "#N/A", 7: "#CIRC!"}

// of is a small fraction.
func of(num, den int64) api.Rat {
	r, _ := rat.Make(whole.Of(num), whole.Of(den))
	return r
}

// num, text, truth and fault are values, made without the package.
func num(a, b int64) api.Value    { return api.Value{Kind: api.Number, Num: of(a, b)} }
func text(s string) api.Value     { return api.Value{Kind: api.Text, Text: s} }
func truth(b bool) api.Value      { return api.Value{Kind: api.Truth, Truth: b} }
func fault(n int) api.Value       { return api.Value{Kind: api.Fault, Fault: n} }
func greatest(neg bool) api.Value { return api.Value{Kind: api.Number, Num: great(neg, 256)} }

// great is the number of so many bits that are all 1.
func great(neg bool, bits int) api.Rat {
	return api.Rat{Neg: neg, Num: strings.Repeat("\xff", bits/8), Den: "\x01"}
}

// printable is all bytes that a text may have.
func printable() string {
	l := []byte{}
	for b := byte(32); b <= 126; b++ {
		l = append(l, b)
	}
	return string(l)
}

// texts are texts that can be, many of which are read as something else where no apostrophe is ahead.
func texts() []string {
	l := []string{"", "a", "A1", "some text", " ", "  12", "12 ", "'", "''", "'a", "'12", "'=1", "'TRUE", "=", "=A1", "= 1", "==", "a=b", "12", "-12", "1.25", "1/2", "2/4", "-0", "007", "1/0", "1.", ".5", "-", "/", "1e5", "TRUE", "FALSE", "True", "true", "TRUE ", "'FALSE", "#", "#N/A!", "#n/a", "#DIV/0", "#REF! ", " #REF!", "\"a\"", "a'b", "~", printable(), strings.Repeat("x", 200), strings.Repeat("=", 200), strings.Repeat("'", 200), strings.Repeat("1", 200), strings.Repeat("0", 200), strings.Repeat("1", 78) + "/" + strings.Repeat("3", 78)}
	for _, name := range names {
		l = append(l, name, "'"+name, name+name)
	}
	return l
}

// rights are values of all kinds that can be.
func rights() []api.Value {
	l := []api.Value{{}, truth(true), truth(false), greatest(false), greatest(true)}
	for _, a := range []int64{0, 1, -1, 7, -12, 1000, math.MaxInt64, math.MinInt64} {
		for _, b := range []int64{1, 2, 3, 1000, 1 << 20, 1 << 21} {
			l = append(l, num(a, b))
		}
	}
	for _, s := range texts() {
		l = append(l, text(s))
	}
	for n := range names {
		l = append(l, fault(n))
	}
	return l
}

// noTexts can not be texts.
func noTexts() []string {
	return []string{"\x00", "\x1f", "\x7f", "\x80", "\xff", "a\tb", "a\n", "\r", "a\x00", "é", "“", strings.Repeat("x", 201), strings.Repeat("x", 300), strings.Repeat("1", 201), strings.Repeat("x", 199) + "\x7f"}
}

// noNumbers are not right.
func noNumbers() []api.Rat {
	return []api.Rat{{}, {Num: "\x05"}, {Num: "\x00\x05", Den: "\x01"}, {Num: "\x05", Den: "\x00\x01"}, {Neg: true, Den: "\x01"}, {Den: "\x02"}, {Num: "\x06", Den: "\x04"}, great(false, 264)}
}

// wrongs can not be.
func wrongs() []api.Value {
	l := []api.Value{{Kind: -1}, {Kind: 5}, {Kind: 6, Fault: 2}, {Kind: math.MaxInt}, {Kind: math.MinInt}, fault(0), fault(-1), fault(8), fault(math.MaxInt), fault(math.MinInt)}
	for _, s := range noTexts() {
		l = append(l, text(s))
	}
	for _, r := range noNumbers() {
		l = append(l, api.Value{Kind: api.Number, Num: r})
	}
	return append(l, overfull()...)
}

// overfull have, beside what their kind has, something else that is not zero.
func overfull() []api.Value {
	var l []api.Value
	for _, v := range []api.Value{{}, num(0, 1), num(-1, 2), text(""), text("a"), truth(false), truth(true), fault(1), fault(7)} {
		if v.Kind != api.Number {
			for _, r := range []api.Rat{of(0, 1), of(1, 2), {Neg: true}, {Num: "\x01"}} {
				more := v
				more.Num = r
				l = append(l, more)
			}
		}
		if v.Kind != api.Text {
			more := v
			more.Text = "a"
			l = append(l, more)
		}
		if v.Kind != api.Truth {
			more := v
			more.Truth = true
			l = append(l, more)
		}
		if v.Kind != api.Fault {
			for _, n := range []int{1, 2, 7, 8, -1} {
				more := v
				more.Fault = n
				l = append(l, more)
			}
		}
	}
	return l
}

// P8.1: Right.
func TestRight(t *testing.T) {
	for _, v := range rights() {
		if !value.Right(v) {
			t.Errorf("Right of %#v", v)
		}
	}
	for _, v := range wrongs() {
		if value.Right(v) {
			t.Errorf("Right of %#v, that can not be", v)
		}
	}
}

// P8.1: Num.
func TestNum(t *testing.T) {
	for _, r := range []api.Rat{of(0, 1), of(-5, 4), of(1, 3), great(true, 256)} {
		if got := value.Num(r); got != (api.Value{Kind: api.Number, Num: r}) {
			t.Errorf("Num of %#v: %#v", r, got)
		}
	}
	for _, r := range noNumbers() {
		if got := value.Num(r); got != num(0, 1) {
			t.Errorf("Num of %#v: %#v", r, got)
		}
	}
}

// P8.1: Text.
func TestText(t *testing.T) {
	for _, s := range texts() {
		if got := value.Text(s); got != text(s) {
			t.Errorf("Text of %q: %#v", s, got)
		}
	}
	for _, s := range noTexts() {
		if got := value.Text(s); got != fault(2) {
			t.Errorf("Text of %q: %#v", s, got)
		}
	}
}

// P8.1: Truth and Fault.
func TestTruthAndFault(t *testing.T) {
	for _, b := range []bool{true, false} {
		if got := value.Truth(b); got != truth(b) {
			t.Errorf("Truth of %v: %#v", b, got)
		}
	}
	for n := range names {
		if got := value.Fault(n); got != fault(n) {
			t.Errorf("Fault of %d: %#v", n, got)
		}
	}
	for _, n := range []int{0, -1, 8, 9, math.MaxInt, math.MinInt} {
		if got := value.Fault(n); got != fault(2) {
			t.Errorf("Fault of %d: %#v", n, got)
		}
	}
}

// P8.1: Of.
func TestOf(t *testing.T) {
	for _, r := range append(noNumbers(), of(0, 1), of(-1, 3)) {
		if got := value.Of(r, api.OK); got != value.Num(r) || got.Kind != api.Number {
			t.Errorf("Of %#v: %#v", r, got)
		}
		if got := value.Of(r, api.ErrZero); got != fault(1) {
			t.Errorf("Of %#v and ErrZero: %#v", r, got)
		}
		for e := api.Errno(-1); e <= 21; e++ {
			if e == api.OK || e == api.ErrZero {
				continue
			}
			if got := value.Of(r, e); got != fault(5) {
				t.Errorf("Of %#v and the error %d: %#v", r, e, got)
			}
		}
	}
}

// P8.1: Name and Named.
func TestNames(t *testing.T) {
	for n, name := range names {
		if got := value.Name(n); got != name {
			t.Errorf("Name of %d: %s", n, got)
		}
		if got, ok := value.Named(name); got != n || !ok {
			t.Errorf("Named of %s: %d %v", name, got, ok)
		}
		for _, s := range []string{strings.ToLower(name), name + " ", " " + name, name[1:], name[:len(name)-1], name + name} {
			if got, ok := value.Named(s); got != 0 || ok {
				t.Errorf("Named of %q: %d %v", s, got, ok)
			}
		}
	}
	for _, n := range []int{0, -1, 8, 100, math.MaxInt, math.MinInt} {
		if got := value.Name(n); got != "" {
			t.Errorf("Name of %d: %s", n, got)
		}
	}
	for _, s := range []string{"", "#", "a", "TRUE", "#NULL!", "\x00"} {
		if got, ok := value.Named(s); got != 0 || ok {
			t.Errorf("Named of %q: %d %v", s, got, ok)
		}
	}
}

// P8.2: Show.
func TestShow(t *testing.T) {
	for want, v := range map[string]api.Value{"": {}, "0": num(0, 1), "-1.25": num(-5, 4), "1/3": num(1, 3), "-22/7": num(-22, 7), "TRUE": truth(true), "FALSE": truth(false), "a text": text("a text"), "'": text("'"), "=A1": text("=A1"), "12": text("12"), "#N/A!": text("#N/A!")} {
		if got := value.Show(v); got != want {
			t.Errorf("Show of %#v: %s, want %s", v, got, want)
		}
	}
	for _, s := range texts() {
		if got := value.Show(text(s)); got != s {
			t.Errorf("Show of the text %q: %s", s, got)
		}
	}
	for n, name := range names {
		if got := value.Show(fault(n)); got != name {
			t.Errorf("Show of the fault %d: %s", n, got)
		}
	}
	for _, v := range wrongs() {
		if got := value.Show(v); got != "" {
			t.Errorf("Show of %#v, that can not be: %s", v, got)
		}
	}
}

// P8.3: Literal of what is read.
func TestLiteral(t *testing.T) {
	for s, want := range map[string]api.Value{
		"": {}, "TRUE": truth(true), "FALSE": truth(false),
		"2/4": num(1, 2), "0": num(0, 1), "-0": num(0, 1), "007": num(7, 1), "-1.25": num(-5, 4), "1.50": num(3, 2), "-2/6": num(-1, 3),
		"'": text(""), "''": text("'"), "'12": text("12"), "'TRUE": text("TRUE"), "'#N/A": text("#N/A"), "'=A1": text("=A1"), "' a": text(" a"), "'a'": text("a'"), "'" + printable(): text(printable()), "'" + strings.Repeat("x", 200): text(strings.Repeat("x", 200)),
		"a": text("a"), " ": text(" "), "=A1": text("=A1"), "=": text("="), "True": text("True"), "true": text("true"), "FALSE ": text("FALSE "), " TRUE": text(" TRUE"), "#n/a": text("#n/a"), "#N/A!": text("#N/A!"), " 12": text(" 12"), "12 ": text("12 "), "+1": text("+1"), "1e5": text("1e5"), ".5": text(".5"), "5.": text("5."), "--1": text("--1"), "1/2/3": text("1/2/3"), "a'b": text("a'b"), printable(): text(printable()), strings.Repeat("x", 200): text(strings.Repeat("x", 200)),
		strings.Repeat("0", 299) + "7": num(7, 1), strings.Repeat("0", 150) + "1/" + strings.Repeat("0", 147) + "2": num(1, 2), "-" + strings.Repeat("0", 299): num(0, 1), strings.Repeat("0", 201): num(0, 1),
	} {
		if got, e := value.Literal(s); got != want || e != api.OK {
			t.Errorf("Literal of %q: %#v %d", s, got, e)
		}
	}
	for n, name := range names {
		if got, e := value.Literal(name); got != fault(n) || e != api.OK {
			t.Errorf("Literal of %s: %#v %d", name, got, e)
		}
	}
}

// P8.3: a number that is refused with ErrNum or ErrZero is a text.
func TestLiteralOfRefusedNumbers(t *testing.T) {
	for _, s := range []string{"1/0", "-0/0", "1" + strings.Repeat("0", 78), "1/1" + strings.Repeat("0", 78), strings.Repeat("7", 200), "0." + strings.Repeat("3", 198)} {
		if got, e := value.Literal(s); got != text(s) || e != api.OK {
			t.Errorf("Literal of %q: %#v %d", s, got, e)
		}
	}
	for _, s := range []string{strings.Repeat("7", 201), strings.Repeat("7", 300), strings.Repeat("0", 201) + "/0"} {
		if got, e := value.Literal(s); got != (api.Value{}) || e != api.ErrText {
			t.Errorf("Literal of %q: %#v %d", s, got, e)
		}
	}
}

// P8.3: what Literal refuses, ErrLong first.
func TestLiteralRefuses(t *testing.T) {
	for _, s := range noTexts() {
		if got, e := value.Literal(s); got != (api.Value{}) || e != api.ErrText {
			t.Errorf("Literal of %q: %#v %d", s, got, e)
		}
	}
	for _, s := range []string{"'\x00", "'\n", "'\x7f", "'\xff", "TRUE\n", "12\x00", "#N/A\x80", "'" + strings.Repeat("x", 201), "'" + strings.Repeat("0", 299), "=" + strings.Repeat("x", 200)} {
		if got, e := value.Literal(s); got != (api.Value{}) || e != api.ErrText {
			t.Errorf("Literal of %q: %#v %d", s, got, e)
		}
	}
	for _, s := range []string{strings.Repeat("0", 301), strings.Repeat("x", 301), "'" + strings.Repeat("x", 300), strings.Repeat("\x00", 301), "=" + strings.Repeat("1", 300), strings.Repeat("0", 401), strings.Repeat("a", 100_000)} {
		if got, e := value.Literal(s); got != (api.Value{}) || e != api.ErrLong {
			t.Errorf("Literal of %d bytes: %#v %d", len(s), got, e)
		}
	}
}

// P8.4: Content.
func TestContent(t *testing.T) {
	for want, v := range map[string]api.Value{
		"": {}, "TRUE": truth(true), "FALSE": truth(false), "0.5": num(1, 2), "-1/3": num(-1, 3), "#DIV/0!": fault(1), "#CIRC!": fault(7),
		"'": text(""), "a": text("a"), "'12": text("12"), "'-12": text("-12"), "'1/2": text("1/2"), "'2/4": text("2/4"), "'TRUE": text("TRUE"), "'FALSE": text("FALSE"), "'#N/A": text("#N/A"), "'=A1": text("=A1"), "'=": text("="), "''": text("'"), "'''a": text("''a"), "''12": text("'12"),
		"1/0": text("1/0"), "true": text("true"), " =A1": text(" =A1"), "#N/A!": text("#N/A!"), "1.": text("1."), "a'": text("a'"), " ": text(" "), strings.Repeat("7", 200): text(strings.Repeat("7", 200)), "'" + strings.Repeat("0", 200): text(strings.Repeat("0", 200)),
	} {
		if got, e := value.Content(v); got != want || e != api.OK {
			t.Errorf("Content of %#v: %s %d, want %s", v, got, e, want)
		}
	}
	for _, v := range wrongs() {
		if got, e := value.Content(v); got != "" || e != api.ErrForm {
			t.Errorf("Content of %#v, that can not be: %s %d", v, got, e)
		}
	}
}

// P8.5: Literal of Content is the value. P8.4: no text has an apostrophe ahead that it does not need.
func TestThereAndBack(t *testing.T) {
	for _, v := range rights() {
		content, e := value.Content(v)
		got, f := value.Literal(content)
		if e != api.OK || f != api.OK || got != v {
			t.Errorf("Literal of the content %q of %#v: %#v %d %d", content, v, got, e, f)
		}
		bare, g := value.Literal(v.Text)
		needs := g != api.OK || bare != v || strings.HasPrefix(v.Text, "=")
		if v.Kind == api.Text && (content == "'"+v.Text) != needs {
			t.Errorf("Content of the text %q: %s", v.Text, content)
		}
	}
}
