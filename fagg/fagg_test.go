package fagg_test

import (
	"math"
	"math/big"
	"slices"
	"strings"
	"testing"

	"abacist/api"
	"abacist/fagg"
)

var blank = api.Value{}

// number is the number that x is, or the fault of one with too many bits.
func number(x *big.Rat) api.Value {
	if x.Num().BitLen() > api.MaxBits || x.Denom().BitLen() > api.MaxBits {
		return fault(api.FaultNum)
	}
	return api.Value{Kind: api.Number, Num: api.Rat{Neg: x.Sign() < 0, Num: string(x.Num().Bytes()), Den: string(x.Denom().Bytes())}}
}

func num(a, b int64) api.Value { return number(big.NewRat(a, b)) }
func text(s string) api.Value  { return api.Value{Kind: api.Text, Text: s} }
func truth(b bool) api.Value   { return api.Value{Kind: api.Truth, Truth: b} }
func fault(n int) api.Value    { return api.Value{Kind: api.Fault, Fault: n} }

// nums are whole numbers.
func nums(l ...int64) []api.Value {
	var vs []api.Value
	for _, n := range l {
		vs = append(vs, num(n, 1))
	}
	return vs
}

// single is an argument that is no area; column one that is.
func single(v api.Value) api.Arg        { return api.Arg{Vals: []api.Value{v}, Cols: 1} }
func column(vs ...api.Value) api.Arg    { return api.Arg{Vals: vs, Cols: 1, Area: true, Col: 2, Row: 3} }
func row(vs ...api.Value) api.Arg       { return api.Arg{Vals: vs, Cols: len(vs), Area: true} }
func args(l ...api.Arg) []api.Arg       { return l }
func whole(n *big.Int) api.Value        { return number(new(big.Rat).SetInt(n)) }
func repeat(v api.Value, n int) api.Arg { return column(slices.Repeat([]api.Value{v}, n)...) }

// singles are arguments that are no areas.
func singles(vs ...api.Value) []api.Arg {
	var l []api.Arg
	for _, v := range vs {
		l = append(l, single(v))
	}
	return l
}

// ones is the number of so many bits that are all 1: of 256 the greatest that a number may have.
func ones(n uint) *big.Int {
	one := big.NewInt(1)
	return new(big.Int).Sub(new(big.Int).Lsh(one, n), one)
}

// table is the chapter's: names in their order, with how many arguments each has at least and at most.
var table = []struct {
	name        string
	least, most int
}{
	{"SUM", 1, 20}, {"PRODUCT", 1, 20}, {"SUMSQ", 1, 20}, {"COUNT", 1, 20}, {"COUNTA", 1, 20}, {"COUNTBLANK", 1, 20}, {"MIN", 1, 20}, {"MAX", 1, 20}, {"AVERAGE", 1, 20}, {"MEDIAN", 1, 20}, {"VAR", 1, 20}, {"VARP", 1, 20}, {"LARGE", 2, 2}, {"SMALL", 2, 2}, {"RANK", 2, 2}, {"SUMPRODUCT", 1, 20}, {"COUNTIF", 2, 2}, {"SUMIF", 2, 3}, {"AVERAGEIF", 2, 3},
}

// passing are the functions that pass faults over.
var passing = []string{"COUNT", "COUNTA", "COUNTBLANK", "COUNTIF"}

// want checks what a function answers.
func want(t *testing.T, answer api.Value, name string, l ...api.Arg) {
	t.Helper()
	if got := fagg.Do(name, l...); got != answer {
		t.Errorf("%s of %#v: %#v, want %#v", name, l, got, answer)
	}
}

// P19.1: Names are those of the table, in its order, each time anew.
func TestNames(t *testing.T) {
	var names []string
	for _, f := range table {
		names = append(names, f.name)
	}
	for range 2 {
		got := fagg.Names()
		if !slices.Equal(got, names) {
			t.Errorf("Names: %q", got)
		}
		for i := range got {
			got[i] = "ABS"
		}
		_ = append(got[:0], "A", "B")
	}
	for _, name := range names {
		if got := fagg.Do(name, singles(num(1, 1), num(1, 1))...); got.Kind == api.Fault {
			t.Errorf("%s of 1 and 1: %#v", name, got)
		}
	}
}

// P19.1: of names that are none FaultName, whatever the arguments are.
func TestOtherNames(t *testing.T) {
	for _, name := range []string{"", " ", "sum", "Sum", "SUM ", " SUM", "SUM(", "SU", "SUMM", "COUNTI", "COUNTIFS", "SUMIFS", "ABS", "IF", "AND", "LEN", "INDEX", "VARS", "SUM\x00", "\xff", "é", strings.Repeat("A", 1000)} {
		for _, l := range [][]api.Arg{nil, {}, singles(num(1, 1)), singles(fault(1), fault(3)), {{}}, {column(nums(1, 2)...), single(num(1, 1))}, slices.Repeat(singles(num(1, 1)), 21)} {
			want(t, fault(api.FaultName), name, l...)
		}
	}
}

// P19.1: of too few, or too many, arguments FaultValue, whatever they are.
func TestHowMany(t *testing.T) {
	for _, f := range table {
		for n := range 45 {
			for _, a := range []api.Arg{single(num(1, 1)), single(fault(1)), column(fault(7), num(1, 1)), {}} {
				got := fagg.Do(f.name, slices.Repeat([]api.Arg{a}, n)...)
				switch {
				case n < f.least || n > f.most:
					if got != fault(api.FaultValue) {
						t.Errorf("%s of %d arguments: %#v", f.name, n, got)
					}
				case len(a.Vals) == 1 && a.Vals[0] == num(1, 1) && got == fault(api.FaultValue):
					t.Errorf("%s of %d arguments: %#v", f.name, n, got)
				}
			}
		}
	}
}

// impossible are arguments that can not be.
func impossible() []api.Arg {
	l := args(api.Arg{}, api.Arg{Cols: 1}, api.Arg{Cols: 1, Area: true}, api.Arg{Vals: []api.Value{}, Cols: 1, Area: true}, api.Arg{Vals: nums(1)}, api.Arg{Vals: nums(1), Area: true}, api.Arg{Vals: nums(1), Cols: -1, Area: true}, api.Arg{Vals: nums(1), Cols: math.MinInt}, api.Arg{Vals: nums(1), Cols: 2}, api.Arg{Vals: nums(1), Cols: math.MaxInt, Area: true}, api.Arg{Vals: nums(1, 2), Cols: 1}, api.Arg{Vals: nums(1, 2), Cols: 2}, api.Arg{Vals: nums(1, 2, 3), Cols: 2, Area: true}, api.Arg{Vals: nums(1, 2), Cols: 4, Area: true}, repeat(num(1, 1), 201), row(slices.Repeat(nums(1), 400)...))
	for _, v := range []api.Value{{Kind: -1}, {Kind: 5}, {Kind: math.MaxInt}, {Kind: api.Number}, {Kind: api.Number, Num: api.Rat{Num: "\x06", Den: "\x04"}}, {Text: "1"}, {Fault: 7}, {Truth: true}, fault(0), fault(8), fault(-1), text("a\n"), text(strings.Repeat("1", 201)), {Kind: api.Truth, Fault: 1}, {Kind: api.Fault, Fault: 3, Text: "a"}} {
		l = append(l, single(v), column(v), column(num(1, 1), num(2, 1), v))
	}
	return l
}

// P19.1: an argument that can not be is FaultValue, also behind another fault.
func TestArgumentsThatCanNotBe(t *testing.T) {
	for _, bad := range impossible() {
		for _, f := range table {
			for n := f.least; n <= f.most; n += 1 + f.most/10 {
				for at := range n {
					for _, other := range []api.Arg{single(num(1, 1)), single(fault(1)), column(fault(6), num(1, 1))} {
						l := slices.Repeat(args(other), n)
						l[at] = bad
						want(t, fault(api.FaultValue), f.name, l...)
					}
				}
			}
		}
	}
}

// P19.1: areas of 200 values can be, in any full rows, wherever their first cell is.
func TestGreatAreas(t *testing.T) {
	for _, cols := range []int{1, 2, 8, 20, 100, 200} {
		for _, place := range []int{math.MinInt, 0, 99, math.MaxInt} {
			a := api.Arg{Vals: slices.Repeat(nums(3), 200), Cols: cols, Area: true, Col: place, Row: place}
			want(t, num(600, 1), "SUM", a)
			want(t, num(200, 1), "COUNT", a)
			want(t, num(1800, 1), "SUMPRODUCT", a, a)
			want(t, num(3, 1), "LARGE", a, single(num(200, 1)))
		}
	}
	all := slices.Repeat(args(repeat(num(1, 2), 200)), 20)
	want(t, num(2000, 1), "SUM", all...)
	want(t, num(4000, 1), "COUNT", all...)
	want(t, num(1, 2), "MEDIAN", all...)
	want(t, num(0, 1), "VAR", all...)
}

// P19.1: the first fault of the values of all arguments, in order, is the answer: of those functions that do not pass it over.
func TestFirstFault(t *testing.T) {
	for _, f := range table {
		if slices.Contains(passing, f.name) {
			continue
		}
		for n := f.least; n <= f.most; n += 1 + f.most/10 {
			for at := range n {
				for first := 1; first <= 7; first++ {
					later := fault(8 - first)
					for _, bad := range []api.Arg{single(fault(first)), column(fault(first)), column(num(1, 1), fault(first), later), row(blank, text("a"), fault(first), later)} {
						// What is no number, ahead of it, is no fault of a value.
						for _, other := range []api.Arg{single(num(1, 1)), single(text("a")), column(nums(9, 9, 9, 9, 9)...)} {
							l := slices.Repeat(args(other), n)
							l[at] = bad
							want(t, fault(first), f.name, l...)
							if at+1 < n {
								l[at+1] = single(later)
								want(t, fault(first), f.name, l...)
							}
						}
					}
				}
			}
		}
	}
}

// P19.1: COUNT, COUNTA, COUNTBLANK and COUNTIF pass faults over.
func TestPassedOver(t *testing.T) {
	mixed := column(num(1, 1), blank, fault(1), text("2"), text(""), truth(true), fault(6), blank, num(0, 1), fault(7))
	want(t, num(2, 1), "COUNT", mixed)
	want(t, num(8, 1), "COUNTA", mixed)
	want(t, num(2, 1), "COUNTBLANK", mixed)
	want(t, num(1, 1), "COUNTIF", mixed, single(num(1, 1)))
	want(t, num(0, 1), "COUNTIF", mixed, single(fault(1)))
	want(t, num(0, 1), "COUNTIF", mixed, single(fault(6)))
	want(t, num(0, 1), "COUNTIF", single(fault(2)), single(fault(2)))
	want(t, fault(api.FaultValue), "COUNTIF", mixed, column(fault(1), fault(3)))
	want(t, fault(api.FaultValue), "COUNTIF", single(fault(1)), row(nums(1, 2)...))
	for n := 1; n <= 7; n++ {
		want(t, num(0, 1), "COUNT", single(fault(n)))
		want(t, num(2, 1), "COUNT", single(num(1, 1)), single(fault(n)), column(fault(n), num(1, 1)))
		want(t, num(3, 1), "COUNTA", single(num(1, 1)), single(fault(n)), single(blank), column(fault(n), blank))
		want(t, num(2, 1), "COUNTBLANK", single(num(1, 1)), single(fault(n)), single(blank), column(fault(n), blank))
	}
	want(t, num(5, 1), "COUNT", singles(num(0, 1), blank, truth(false), text("1/2"), text("-3"), text("a"), text(""), text("1/0"), text("TRUE"))...)
	want(t, num(8, 1), "COUNTA", singles(num(0, 1), blank, truth(false), text("1/2"), text("-3"), text("a"), text(""), text("1/0"), text("TRUE"))...)
	want(t, num(1, 1), "COUNTBLANK", singles(num(0, 1), blank, truth(false), text("1/2"), text("-3"), text("a"), text(""), text("1/0"), text("TRUE"))...)
}

// P19.1: the arguments and their values stay as they were.
func TestArgumentsStay(t *testing.T) {
	for _, f := range table {
		made := func() []api.Arg {
			return args(column(nums(7, 3, 5, 1)...), single(num(2, 1)), column(nums(4, 9, -1, 3)...))
		}
		l, was := made(), made()
		fagg.Do(f.name, l[:min(f.most, 3)]...)
		fagg.Do(f.name, l[:f.least]...)
		for i := range l {
			if !slices.Equal(l[i].Vals, was[i].Vals) || l[i].Cols != was[i].Cols {
				t.Errorf("%s changes its arguments: %#v", f.name, l[i])
			}
		}
	}
}
