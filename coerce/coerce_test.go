package coerce_test

import (
	"bytes"
	"math"
	"math/big"
	"strings"
	"testing"

	"abacist/api"
	"abacist/coerce"
	"abacist/numtext"
	"abacist/rat"
	"abacist/value"
	"abacist/whole"
)

// of is a small fraction.
func of(a, b int64) api.Rat {
	r, _ := rat.Make(whole.Of(a), whole.Of(b))
	return r
}

// num, text, truth and fault are values, made without package value.
func num(a, b int64) api.Value { return api.Value{Kind: api.Number, Num: of(a, b)} }
func text(s string) api.Value  { return api.Value{Kind: api.Text, Text: s} }
func truth(b bool) api.Value   { return api.Value{Kind: api.Truth, Truth: b} }
func fault(n int) api.Value    { return api.Value{Kind: api.Fault, Fault: n} }

// great has 256 bits that are all 1.
func great(neg bool) api.Rat {
	return api.Rat{Neg: neg, Num: strings.Repeat("\xff", 32), Den: "\x01"}
}

// numbers are numbers of all kinds.
func numbers() []api.Rat {
	least := api.Rat{Num: "\x01", Den: strings.Repeat("\xff", 32)}
	l := []api.Rat{great(false), great(true), least, rat.Neg(least)}
	for _, a := range []int64{0, 1, -1, 2, 7, -12, 1000, math.MaxInt64, math.MinInt64} {
		for _, b := range []int64{1, 2, 3, 1000, 1 << 20, 1 << 21} {
			l = append(l, of(a, b))
		}
	}
	return l
}

// texts are texts that can be, some of them beginnings of others.
func texts() []string {
	return []string{"", " ", "a", "ab", "aa", "b", "A", "B", "AB", "TRUE", "FALSE", "True", "true", "0", "00", "1", "12", "-1", "1/2", "2/4", "0.5", "~", "~~", "#N/A", "=A1", "'", strings.Repeat("x", 199), strings.Repeat("x", 200)}
}

// sound are values that are neither Blank nor a fault.
func sound() []api.Value {
	l := []api.Value{truth(false), truth(true)}
	for _, r := range numbers() {
		l = append(l, api.Value{Kind: api.Number, Num: r})
	}
	for _, s := range texts() {
		l = append(l, text(s))
	}
	return l
}

// wrongs can not be: of kinds that there are not, with what their kind has wrong, or with something else beside it.
func wrongs() []api.Value {
	return []api.Value{
		{Kind: -1}, {Kind: 5}, {Kind: math.MaxInt}, {Kind: math.MinInt}, {Kind: 9, Fault: 3},
		fault(0), fault(-1), fault(8), fault(math.MaxInt), fault(math.MinInt),
		text("a\n"), text("\x7f"), text("é"), text(strings.Repeat("x", 201)), text(strings.Repeat("0", 201)),
		{Kind: api.Number}, {Kind: api.Number, Num: api.Rat{Num: "\x06", Den: "\x04"}}, {Kind: api.Number, Num: api.Rat{Neg: true, Den: "\x01"}}, {Kind: api.Number, Num: api.Rat{Num: strings.Repeat("\xff", 33), Den: "\x01"}},
		{Text: "1"}, {Truth: true}, {Fault: 7}, {Num: of(1, 1)},
		{Kind: api.Number, Num: of(1, 1), Fault: 7}, {Kind: api.Text, Text: "1", Fault: 1}, {Kind: api.Truth, Truth: true, Fault: 6}, {Kind: api.Truth, Truth: true, Text: "a"},
		{Kind: api.Fault, Fault: 7, Text: "a"}, {Kind: api.Fault, Fault: 1, Truth: true}, {Kind: api.Fault, Fault: 3, Num: of(0, 1)},
	}
}

// faulty are values that have faults, each beside the fault that is told of it.
func faulty() map[api.Value]int {
	l := map[api.Value]int{}
	for n := 1; n <= 7; n++ {
		l[fault(n)] = n
	}
	for _, v := range wrongs() {
		l[v] = 2
	}
	return l
}

// P9.1: of a fault all tell that fault; of a value that can not be, the fault is 2; beside it stands the zero answer.
func TestFaultsArePassedOn(t *testing.T) {
	for v, want := range faulty() {
		if r, n := coerce.Num(v); r != (api.Rat{}) || n != want {
			t.Errorf("Num of %#v: %#v %d", v, r, n)
		}
		if s, n := coerce.Text(v); s != "" || n != want {
			t.Errorf("Text of %#v: %q %d", v, s, n)
		}
		if b, n := coerce.Truth(v); b || n != want {
			t.Errorf("Truth of %#v: %v %d", v, b, n)
		}
	}
}

// P9.1: Num.
func TestNum(t *testing.T) {
	for v, want := range map[api.Value]api.Rat{
		{}: of(0, 1), truth(true): of(1, 1), truth(false): of(0, 1),
		text("12"): of(12, 1), text("1/2"): of(1, 2), text("2/4"): of(1, 2), text("-0"): of(0, 1), text("-1.25"): of(-5, 4), text("007"): of(7, 1), text("0/5"): of(0, 1), text("-22/7"): of(-22, 7), text(strings.Repeat("0", 199) + "3"): of(3, 1),
	} {
		if got, n := coerce.Num(v); got != want || n != 0 {
			t.Errorf("Num of %#v: %#v %d", v, got, n)
		}
	}
	for _, r := range numbers() {
		if got, n := coerce.Num(api.Value{Kind: api.Number, Num: r}); got != r || n != 0 {
			t.Errorf("Num of %#v: %#v %d", r, got, n)
		}
	}
	for _, s := range []string{"", " ", "a", "TRUE", "FALSE", "#N/A", "+1", ".5", "5.", "1 ", " 1", "1e5", "--1", "1/2/3", "1/-2", "1/0", "0/0", "1" + strings.Repeat("0", 78), "1/1" + strings.Repeat("0", 78)} {
		if got, n := coerce.Num(text(s)); got != (api.Rat{}) || n != 2 {
			t.Errorf("Num of the text %q: %#v %d", s, got, n)
		}
	}
}

// P9.1: Text.
func TestText(t *testing.T) {
	for v, want := range map[api.Value]string{{}: "", num(-5, 4): "-1.25", num(1, 3): "1/3", num(0, 1): "0", truth(true): "TRUE", truth(false): "FALSE"} {
		if got, n := coerce.Text(v); got != want || n != 0 {
			t.Errorf("Text of %#v: %q %d", v, got, n)
		}
	}
	for _, s := range texts() {
		if got, n := coerce.Text(text(s)); got != s || n != 0 {
			t.Errorf("Text of the text %q: %q %d", s, got, n)
		}
	}
	for _, r := range numbers() {
		if got, n := coerce.Text(api.Value{Kind: api.Number, Num: r}); got != numtext.Text(r) || n != 0 {
			t.Errorf("Text of %#v: %q %d", r, got, n)
		}
	}
}

// P9.1: Truth.
func TestTruth(t *testing.T) {
	for v, want := range map[api.Value]bool{{}: false, truth(true): true, truth(false): false, text("TRUE"): true, text("FALSE"): false, num(0, 1): false, num(1, 1): true, num(-1, 1): true, num(1, 3): true, {Kind: api.Number, Num: great(true)}: true} {
		if got, n := coerce.Truth(v); got != want || n != 0 {
			t.Errorf("Truth of %#v: %v %d", v, got, n)
		}
	}
	for _, s := range []string{"", "True", "true", "FALSE ", " TRUE", "'TRUE", "T", "0", "1", "#N/A", "TRUEFALSE"} {
		if got, n := coerce.Truth(text(s)); got || n != 2 {
			t.Errorf("Truth of the text %q: %v %d", s, got, n)
		}
	}
}

// P9.2: Cmp of a Blank.
func TestCmpOfBlank(t *testing.T) {
	for v, want := range map[api.Value]int{{}: 0, num(0, 1): 0, num(1, 3): -1, num(-1, 3): 1, {Kind: api.Number, Num: great(true)}: 1, text(""): 0, text("a"): -1, text(" "): -1, text("0"): -1, truth(false): 0, truth(true): -1} {
		if got, n := coerce.Cmp(api.Value{}, v); got != want || n != 0 {
			t.Errorf("Cmp of Blank and %#v: %d %d", v, got, n)
		}
		if got, n := coerce.Cmp(v, api.Value{}); got != -want || n != 0 {
			t.Errorf("Cmp of %#v and Blank: %d %d", v, got, n)
		}
	}
}

// P9.2: Cmp of unlike kinds: numbers are below texts, and these below truths.
func TestCmpOfKinds(t *testing.T) {
	rising := [][]api.Value{{num(0, 1), num(7, 1), num(-7, 2), {Kind: api.Number, Num: great(false)}}, {text(""), text("-9"), text("7"), text("TRUE"), text("~")}, {truth(false), truth(true)}}
	for i, low := range rising {
		for _, high := range rising[i+1:] {
			for _, a := range low {
				for _, b := range high {
					if got, n := coerce.Cmp(a, b); got != -1 || n != 0 {
						t.Errorf("Cmp of %#v and %#v: %d %d", a, b, got, n)
					}
					if got, n := coerce.Cmp(b, a); got != 1 || n != 0 {
						t.Errorf("Cmp of %#v and %#v: %d %d", b, a, got, n)
					}
				}
			}
		}
	}
}

// exact is a number, as math/big has it.
func exact(r api.Rat) *big.Rat {
	num, den := new(big.Int).SetBytes([]byte(r.Num)), new(big.Int).SetBytes([]byte(r.Den))
	if r.Neg {
		num.Neg(num)
	}
	return new(big.Rat).SetFrac(num, den)
}

// P9.2: Cmp within a kind.
func TestCmpWithinKinds(t *testing.T) {
	for _, r := range numbers() {
		for _, s := range numbers() {
			a, b := api.Value{Kind: api.Number, Num: r}, api.Value{Kind: api.Number, Num: s}
			if got, n := coerce.Cmp(a, b); got != exact(r).Cmp(exact(s)) || n != 0 {
				t.Errorf("Cmp of %#v and %#v: %d %d", a, b, got, n)
			}
		}
	}
	for _, r := range texts() {
		for _, s := range texts() {
			if got, n := coerce.Cmp(text(r), text(s)); got != bytes.Compare([]byte(r), []byte(s)) || n != 0 {
				t.Errorf("Cmp of the texts %q and %q: %d %d", r, s, got, n)
			}
		}
	}
	for _, l := range []struct {
		a, b bool
		want int
	}{{false, false, 0}, {false, true, -1}, {true, false, 1}, {true, true, 0}} {
		if got, n := coerce.Cmp(truth(l.a), truth(l.b)); got != l.want || n != 0 {
			t.Errorf("Cmp of %v and %v: %d %d", l.a, l.b, got, n)
		}
	}
}

// P9.2: Cmp tells a's fault, or else b's.
func TestCmpOfFaults(t *testing.T) {
	others := append(sound(), api.Value{})
	for v, want := range faulty() {
		for _, other := range others {
			if got, n := coerce.Cmp(v, other); got != 0 || n != want {
				t.Errorf("Cmp of %#v and %#v: %d %d", v, other, got, n)
			}
			if got, n := coerce.Cmp(other, v); got != 0 || n != want {
				t.Errorf("Cmp of %#v and %#v: %d %d", other, v, got, n)
			}
		}
		for second := range faulty() {
			if got, n := coerce.Cmp(v, second); got != 0 || n != want {
				t.Errorf("Cmp of %#v and %#v: %d %d", v, second, got, n)
			}
		}
	}
}

// P9.2: First.
func TestFirst(t *testing.T) {
	if n := coerce.First(); n != 0 {
		t.Errorf("First of none: %d", n)
	}
	none := append(sound(), api.Value{}, text("#N/A"))
	if n := coerce.First(none...); n != 0 {
		t.Errorf("First where none has a fault: %d", n)
	}
	for v, want := range faulty() {
		for _, l := range [][]api.Value{{v}, {v, {}}, {{}, v}, {v, fault(6)}, {num(1, 1), text("a"), truth(true), v, fault(4), {Kind: 9}}, append(none[:len(none):len(none)], v, fault(7))} {
			kept := append([]api.Value{}, l...)
			if n := coerce.First(l...); n != want {
				t.Errorf("First of %#v: %d, want %d", l, n, want)
			}
			for i := range l {
				if l[i] != kept[i] {
					t.Errorf("First changed %#v to %#v", kept[i], l[i])
				}
			}
		}
	}
}

// P9.3: Cmp the other way round is its opposite; what is at most b, and b at most c, is at most c.
func TestCmpIsAnOrder(t *testing.T) {
	all := sound()
	order := make([][]int, len(all))
	for i, a := range all {
		for _, b := range all {
			got, _ := coerce.Cmp(a, b)
			back, _ := coerce.Cmp(b, a)
			if got != -back || (got == 0) != (a == b) {
				t.Errorf("Cmp of %#v and %#v: %d, the other way round %d", a, b, got, back)
			}
			order[i] = append(order[i], got)
		}
	}
	for i := range all {
		for j := range all {
			for k := range all {
				if order[i][j] <= 0 && order[j][k] <= 0 && order[i][k] > 0 {
					t.Errorf("Cmp of %#v, %#v and %#v is no order", all[i], all[j], all[k])
				}
			}
		}
	}
}

// P9.4: a number, as a text, is that number again.
func TestNumberOfItsText(t *testing.T) {
	for _, r := range append(numbers(), of(-1, 3), api.Rat{Num: strings.Repeat("\xff", 32), Den: "\x80" + strings.Repeat("\x00", 31)}) {
		s, n := coerce.Text(value.Num(r))
		got, m := coerce.Num(value.Text(s))
		if got != r || n != 0 || m != 0 {
			t.Errorf("Num of the text %s of %#v: %#v %d %d", s, r, got, n, m)
		}
	}
}
