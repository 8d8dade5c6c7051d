package ftext_test

import (
	"math"
	"math/big"
	"slices"
	"strings"
	"testing"

	"abacist/api"
	"abacist/ftext"
)

var blank = api.Value{}

// number is the number that x is.
func number(x *big.Rat) api.Value {
	return api.Value{Kind: api.Number, Num: api.Rat{Neg: x.Sign() < 0, Num: string(x.Num().Bytes()), Den: string(x.Denom().Bytes())}}
}

func num(a, b int64) api.Value { return number(big.NewRat(a, b)) }
func n(a int) api.Value        { return num(int64(a), 1) }
func text(s string) api.Value  { return api.Value{Kind: api.Text, Text: s} }
func truth(b bool) api.Value   { return api.Value{Kind: api.Truth, Truth: b} }
func fault(n int) api.Value    { return api.Value{Kind: api.Fault, Fault: n} }

// answer is a text as it is answered: FaultValue, if it is too long.
func answer(s string) api.Value {
	if len(s) > 200 {
		return fault(api.FaultValue)
	}
	return text(s)
}

// ones is the number of so many bits that are all 1: of 256 the greatest that a number may have.
func ones(n uint) *big.Int {
	one := big.NewInt(1)
	return new(big.Int).Sub(new(big.Int).Lsh(one, n), one)
}

// table is the chapter's: names in their order, with how many values each has at least and at most, what these are read as (s a text, c a count, x a number; the last one stands for all behind it), and values that fit.
var table = []struct {
	name        string
	least, most int
	kinds       string
	fit         []api.Value
}{
	{"LEN", 1, 1, "s", nil}, {"LEFT", 1, 2, "sc", nil}, {"RIGHT", 1, 2, "sc", nil}, {"MID", 3, 3, "scc", nil}, {"UPPER", 1, 1, "s", nil}, {"LOWER", 1, 1, "s", nil}, {"PROPER", 1, 1, "s", nil}, {"TRIM", 1, 1, "s", nil}, {"CONCAT", 1, 20, "s", nil}, {"REPT", 2, 2, "sc", nil}, {"EXACT", 2, 2, "ss", nil}, {"FIND", 2, 3, "ssc", nil}, {"SUBSTITUTE", 3, 4, "sssc", nil}, {"REPLACE", 4, 4, "sccs", nil}, {"VALUE", 1, 1, "s", nil}, {"CHAR", 1, 1, "c", []api.Value{text("65")}}, {"CODE", 1, 1, "s", nil}, {"FIXED", 1, 2, "xc", nil},
}

// fitting are as many values that are no fault of a function; all of them count as 1, if nothing else is said.
func fitting(fit []api.Value, n int) []api.Value {
	if fit != nil {
		return slices.Clone(fit)
	}
	return slices.Repeat([]api.Value{num(1, 1)}, n)
}

// kind is what the value of a place is read as.
func kind(kinds string, at int) byte { return kinds[min(at, len(kinds)-1)] }

// want checks what a function answers.
func want(t *testing.T, answer api.Value, name string, l ...api.Value) {
	t.Helper()
	if got := ftext.Do(name, l...); got != answer {
		t.Errorf("%s of %#v: %#v, want %#v", name, l, got, answer)
	}
}

// P21.1: Names are those of the table, in its order, each time anew.
func TestNames(t *testing.T) {
	var names []string
	for _, f := range table {
		names = append(names, f.name)
	}
	for range 2 {
		got := ftext.Names()
		if !slices.Equal(got, names) {
			t.Errorf("Names: %q", got)
		}
		for i := range got {
			got[i] = "ABS"
		}
		_ = append(got[:0], "A", "B")
	}
}

// P21.1: of names that are none FaultName, whatever the values are.
func TestOtherNames(t *testing.T) {
	for _, name := range []string{"", " ", "len", "Len", "LEN ", " LEN", "LEN(", "LE", "LENN", "FINDB", "SEARCH", "CONCATENATE", "SUM", "ABS", "IF", "INDEX", "T", "TEXT", "LEN\x00", "\xff", "é", strings.Repeat("A", 1000)} {
		for _, l := range [][]api.Value{nil, {}, {text("a")}, {text("a"), n(1)}, {text("a"), n(1), n(1)}, {fault(1)}, {fault(1), fault(3)}, {{Kind: 9}}, slices.Repeat([]api.Value{text("a")}, 21)} {
			want(t, fault(api.FaultName), name, l...)
		}
	}
}

// P21.1: of too few, or too many, values FaultValue, whatever they are; of others none, if they fit.
func TestHowMany(t *testing.T) {
	for _, f := range table {
		for n := range 45 {
			few := n < f.least || n > f.most
			for _, v := range []api.Value{num(1, 1), fault(1), fault(7), text("a"), blank, {Kind: 9}} {
				if got := ftext.Do(f.name, slices.Repeat([]api.Value{v}, n)...); few && got != fault(api.FaultValue) {
					t.Errorf("%s of %d values %#v: %#v", f.name, n, v, got)
				}
			}
			if got := ftext.Do(f.name, fitting(f.fit, n)...); !few && got.Kind == api.Fault {
				t.Errorf("%s of %d values that fit: %#v", f.name, n, got)
			}
		}
	}
}

// faulty are values that can't be read as a kind, beside the faults that are told of them.
func faulty(kind byte) map[api.Value]int {
	l := map[api.Value]int{
		text("a\n"): 2, text("\x1f"): 2, text("\x7f"): 2, text("\xff"): 2, text("é"): 2, text(strings.Repeat("1", 201)): 2,
		{Kind: -1}: 2, {Kind: 5}: 2, {Kind: math.MaxInt}: 2, {Kind: api.Number}: 2, {Kind: api.Number, Num: api.Rat{Num: "\x06", Den: "\x04"}}: 2, {Text: "1"}: 2, {Fault: 7}: 2, {Truth: true}: 2, fault(0): 2, fault(8): 2, fault(-1): 2, {Kind: api.Fault, Fault: 3, Text: "a"}: 2, {Kind: api.Truth, Fault: 1}: 2,
	}
	for n := 1; n <= 7; n++ {
		l[fault(n)] = n
	}
	if kind == 's' {
		return l
	}
	for _, s := range []string{"", "a", " 1", "1 ", "TRUE", "FALSE", "1/0", "1e2", "+1", "#N/A", "1" + strings.Repeat("0", 78)} {
		l[text(s)] = 2
	}
	if kind == 'x' {
		return l
	}
	for _, x := range []api.Value{num(1000001, 1), num(-1000001, 1), num(2000003, 2), num(-2000003, 2), num(1<<32, 1), num(1<<32+1, 1), num(math.MaxInt64, 1), num(math.MinInt64, 1), number(new(big.Rat).SetInt(ones(64))), number(new(big.Rat).SetInt(ones(256))), number(new(big.Rat).SetInt(new(big.Int).Add(ones(64), big.NewInt(2)))), text("1000001")} {
		l[x] = 2
	}
	return l
}

// P21.1: the first fault is the answer, at its place, whatever stands ahead of it and behind it.
func TestFirstFault(t *testing.T) {
	for _, f := range table {
		for many := f.least; many <= f.most; many += 1 + f.most/10 {
			for at := range many {
				for v, n := range faulty(kind(f.kinds, at)) {
					l := fitting(f.fit, many)
					l[at] = v
					want(t, fault(n), f.name, l...)
					for behind := at + 1; behind < many; behind++ {
						for later := 1; later <= 7; later++ {
							l := fitting(f.fit, many)
							l[at], l[behind] = v, fault(later)
							want(t, fault(n), f.name, l...)
						}
					}
				}
			}
		}
	}
}

// P21.1: values are read ahead of asking whether counts fit: a count that can be, but does not fit, has its fault behind all others.
func TestFaultsAheadOfCountsThatDoNotFit(t *testing.T) {
	for _, c := range []api.Value{n(0), n(-1), n(-1000000), num(-2000001, 2)} {
		want(t, fault(1), "MID", text("a"), c, fault(1))
		want(t, fault(1), "REPLACE", text("a"), c, fault(1), text("a"))
		want(t, fault(1), "REPLACE", text("a"), c, n(1), fault(1))
		want(t, fault(1), "REPLACE", text("a"), n(1), c, fault(1))
	}
	for _, c := range []api.Value{n(-1000001), n(1000001), num(-2000003, 2)} {
		want(t, fault(2), "MID", text("a"), c, fault(1))
		want(t, fault(2), "REPLACE", text("a"), c, fault(1), text("a"))
		want(t, fault(2), "REPLACE", text("a"), c, n(1), fault(1))
		want(t, fault(2), "REPLACE", text("a"), n(1), c, fault(1))
	}
}

// P21.1: what is not a text is read as package coerce has it.
func TestReadAsTexts(t *testing.T) {
	for v, s := range map[api.Value]string{blank: "", num(0, 1): "0", num(1, 3): "1/3", num(-5, 4): "-1.25", truth(true): "TRUE", truth(false): "FALSE", text("12"): "12", text(""): ""} {
		want(t, n(len(s)), "LEN", v)
		want(t, text(s), "CONCAT", v)
		want(t, text("-"+s+"-"), "CONCAT", text("-"), v, text("-"))
		want(t, truth(true), "EXACT", v, text(s))
		want(t, truth(true), "EXACT", text(s), v)
		want(t, text(s+s), "REPT", v, n(2))
		want(t, text(s), "MID", v, n(1), n(99))
		want(t, text(strings.ToLower(s)), "LOWER", v)
		want(t, text(s+"a"), "REPLACE", text("ba"), n(1), n(1), v)
		want(t, text("x"+s), "SUBSTITUTE", text("xy"), text("y"), v)
		want(t, n(2), "FIND", v, text("x"+s), n(2))
	}
}

// P21.1: what is not a number is read as a count as package coerce has it, and cut.
func TestReadAsCounts(t *testing.T) {
	for v, n := range map[api.Value]int{blank: 0, truth(false): 0, truth(true): 1, text("2"): 2, text("-0.5"): 0, text("7/2"): 3, text("007"): 7, num(-1, 2): 0, num(-999999, 1000000): 0, num(1, 2): 0, num(999999, 1000000): 0, num(19, 10): 1, num(5, 2): 2, num(1000000, 1): 1000000, num(2000001, 2): 1000000, text("1000000.9"): 1000000} {
		m := min(n, 5)
		want(t, text("abcde"[:m]), "LEFT", text("abcde"), v)
		want(t, text("abcde"[5-m:]), "RIGHT", text("abcde"), v)
		want(t, text("abcde"[:m]), "MID", text("abcde"), num(1, 1), v)
		want(t, text("-"+"abcde"[m:]), "REPLACE", text("abcde"), num(1, 1), v, text("-"))
		want(t, text(""), "REPT", text(""), v)
	}
}

// P21.1: the list of values stays as it was.
func TestValuesStay(t *testing.T) {
	for _, f := range table {
		made := func() []api.Value { return []api.Value{text("65"), n(1), text("1"), n(2)} }
		for many := f.least; many <= min(f.most, 4); many++ {
			l := made()
			ftext.Do(f.name, l[:many]...)
			if !slices.Equal(l, made()) {
				t.Errorf("%s changes its values: %#v", f.name, l)
			}
		}
	}
}
