package fnum_test

import (
	"math"
	"math/big"
	"slices"
	"strings"
	"testing"

	"abacist/api"
	"abacist/fnum"
)

// told is a number as api has it; ErrNum, if it has too many bits.
func told(x *big.Rat) (api.Rat, api.Errno) {
	if x.Num().BitLen() > api.MaxBits || x.Denom().BitLen() > api.MaxBits {
		return api.Rat{}, api.ErrNum
	}
	return api.Rat{Neg: x.Sign() < 0, Num: string(x.Num().Bytes()), Den: string(x.Denom().Bytes())}, api.OK
}

// number is the number that x is, or the fault of one with too many bits.
func number(x *big.Rat) api.Value {
	r, e := told(x)
	if e != api.OK {
		return fault(api.FaultNum)
	}
	return api.Value{Kind: api.Number, Num: r}
}

// whole is a whole number, or the fault of one with too many bits.
func whole(n *big.Int) api.Value { return number(new(big.Rat).SetInt(n)) }

func num(a, b int64) api.Value { return number(big.NewRat(a, b)) }
func text(s string) api.Value  { return api.Value{Kind: api.Text, Text: s} }
func truth(b bool) api.Value   { return api.Value{Kind: api.Truth, Truth: b} }
func fault(n int) api.Value    { return api.Value{Kind: api.Fault, Fault: n} }

// nums are whole numbers.
func nums(l ...int64) []api.Value {
	var vs []api.Value
	for _, n := range l {
		vs = append(vs, num(n, 1))
	}
	return vs
}

// ones is the number of so many bits that are all 1: of 256 the greatest that a number may have.
func ones(n uint) *big.Int {
	one := big.NewInt(1)
	return new(big.Int).Sub(new(big.Int).Lsh(one, n), one)
}

// power is 10^n, of any n.
func power(n int) *big.Rat {
	x := new(big.Rat).SetInt(new(big.Int).Exp(big.NewInt(10), big.NewInt(int64(max(n, -n))), nil))
	if n < 0 {
		x.Inv(x)
	}
	return x
}

// samples are numbers whose whole parts, halves and bits have something at their edges, each also below 0.
func samples() []*big.Rat {
	l := []*big.Rat{big.NewRat(0, 1), new(big.Rat).SetFrac(ones(256), big.NewInt(1)), new(big.Rat).SetFrac(big.NewInt(1), ones(256)), new(big.Rat).SetFrac(ones(256), big.NewInt(2)), new(big.Rat).SetFrac(ones(255), big.NewInt(1)), new(big.Rat).SetFrac(new(big.Int).Sub(ones(256), big.NewInt(1)), big.NewInt(1))}
	for _, a := range []int64{1, 2, 3, 4, 5, 7, 15, 25, 1234, 1250, 12345, math.MaxInt64} {
		for _, b := range []int64{1, 2, 3, 4, 10, 100, 1000} {
			l = append(l, big.NewRat(a, b))
		}
	}
	for _, x := range slices.Clone(l)[1:] {
		l = append(l, new(big.Rat).Neg(x))
	}
	return l
}

// floor is the greatest whole number that is not above x.
func floor(x *big.Rat) *big.Rat { return new(big.Rat).SetInt(new(big.Int).Div(x.Num(), x.Denom())) }

// ceil is the least whole number that is not below x.
func ceil(x *big.Rat) *big.Rat {
	below := floor(new(big.Rat).Neg(x))
	return below.Neg(below)
}

// trunc is x's whole part.
func trunc(x *big.Rat) *big.Rat { return new(big.Rat).SetInt(new(big.Int).Quo(x.Num(), x.Denom())) }

// table is the chapter's: names in their order, with how many values each has at least and at most.
var table = []struct {
	name        string
	least, most int
}{
	{"ABS", 1, 1}, {"SIGN", 1, 1}, {"INT", 1, 1}, {"TRUNC", 1, 1}, {"ROUND", 2, 2}, {"ROUNDDOWN", 2, 2}, {"ROUNDUP", 2, 2}, {"CEILING", 2, 2}, {"FLOOR", 2, 2}, {"MOD", 2, 2}, {"QUOTIENT", 2, 2}, {"POWER", 2, 2}, {"SQRT", 1, 1}, {"GCD", 1, 20}, {"LCM", 1, 20}, {"FACT", 1, 1}, {"COMBIN", 2, 2}, {"EVEN", 1, 1}, {"ODD", 1, 1}, {"ISEVEN", 1, 1}, {"ISODD", 1, 1},
}

// want checks what a function answers.
func want(t *testing.T, answer api.Value, name string, l ...api.Value) {
	t.Helper()
	if got := fnum.Do(name, l...); got != answer {
		t.Errorf("%s of %#v: %#v, want %#v", name, l, got, answer)
	}
}

// P18.1: Names are those of the table, in its order, each time anew.
func TestNames(t *testing.T) {
	var names []string
	for _, f := range table {
		names = append(names, f.name)
	}
	for range 2 {
		got := fnum.Names()
		if !slices.Equal(got, names) {
			t.Errorf("Names: %q", got)
		}
		for i := range got {
			got[i] = "SUM"
		}
		_ = append(got[:0], "A", "B")
	}
	for _, f := range table {
		if got := fnum.Do(f.name, nums(1, 1)[:f.least]...); got.Kind == api.Fault {
			t.Errorf("%s of 1: %#v", f.name, got)
		}
	}
}

// P18.1: of names that are none FaultName, whatever the values are.
func TestOtherNames(t *testing.T) {
	for _, name := range []string{"", " ", "abs", "Abs", "ABS ", " ABS", "ABS(", "AB", "ABSS", "ROUNDD", "ROUNDOWN", "SUM", "IF", "LEN", "INDEX", "TRUE", "CEIL", "IS", "PI", "ABS\x00", "\xff", "é", strings.Repeat("A", 1000)} {
		for _, l := range [][]api.Value{nil, nums(1), nums(1, 2), nums(1, 2, 3), slices.Repeat(nums(1), 21), {fault(1)}, {fault(1), fault(3)}, {{Kind: 9}}, {text("a")}} {
			want(t, fault(api.FaultName), name, l...)
		}
	}
}

// P18.1: of too few, or too many, values FaultValue, whatever they are.
func TestHowMany(t *testing.T) {
	for _, f := range table {
		for n := range 45 {
			for _, v := range []api.Value{num(1, 1), fault(1), fault(7), text("a"), {}, {Kind: 9}} {
				got := fnum.Do(f.name, slices.Repeat([]api.Value{v}, n)...)
				switch {
				case n < f.least || n > f.most:
					if got != fault(api.FaultValue) {
						t.Errorf("%s of %d values: %#v", f.name, n, got)
					}
				case v == num(1, 1) && got.Kind == api.Fault:
					t.Errorf("%s of %d values: %#v", f.name, n, got)
				case v.Kind == api.Fault && got != v:
					t.Errorf("%s of %d values %#v: %#v", f.name, n, v, got)
				}
			}
		}
	}
}

// faulty are values that are no numbers, beside the faults that are told of them.
func faulty() map[api.Value]int {
	l := map[api.Value]int{
		text(""): 2, text("a"): 2, text(" 1"): 2, text("TRUE"): 2, text("1/0"): 2, text("1" + strings.Repeat("0", 78)): 2, text("a\n"): 2, text(strings.Repeat("1", 201)): 2,
		{Kind: -1}: 2, {Kind: 5}: 2, {Kind: math.MaxInt}: 2, {Kind: api.Number}: 2, {Kind: api.Number, Num: api.Rat{Num: "\x06", Den: "\x04"}}: 2, {Text: "1"}: 2, {Fault: 7}: 2, fault(0): 2, fault(8): 2, fault(-1): 2, {Kind: api.Fault, Fault: 3, Text: "a"}: 2,
	}
	for n := 1; n <= 7; n++ {
		l[fault(n)] = n
	}
	return l
}

// P18.1: the first fault is the answer, whatever the others are.
func TestFirstFault(t *testing.T) {
	others := []api.Value{num(-1, 1), num(0, 1), num(1, 3), num(1000001, 1), {}, truth(true), text("2")}
	for v, n := range faulty() {
		for _, f := range table {
			if f.most == 1 {
				want(t, fault(n), f.name, v)
				continue
			}
			for _, other := range others {
				want(t, fault(n), f.name, v, other)
				want(t, fault(n), f.name, other, v)
			}
			for later := 1; later <= 7; later++ {
				want(t, fault(n), f.name, v, fault(later))
				want(t, fault(later), f.name, fault(later), v)
			}
			want(t, fault(n), f.name, v, text("a"))
		}
		for _, name := range []string{"GCD", "LCM"} {
			for at := range 20 {
				l := slices.Repeat(nums(-1), 20)
				l[at] = v
				want(t, fault(n), name, l...)
			}
		}
	}
}

// P18.1: values are numbers as package coerce has them.
func TestCounted(t *testing.T) {
	for v, as := range map[api.Value]api.Value{{}: num(0, 1), truth(true): num(1, 1), truth(false): num(0, 1), text("12"): num(12, 1), text("-0.5"): num(-1, 2), text("6/4"): num(3, 2), text("007"): num(7, 1)} {
		for _, f := range table {
			if f.most == 1 {
				want(t, fnum.Do(f.name, as), f.name, v)
				continue
			}
			want(t, fnum.Do(f.name, as, num(3, 1)), f.name, v, num(3, 1))
			want(t, fnum.Do(f.name, num(25, 1), as), f.name, num(25, 1), v)
		}
	}
	want(t, num(0, 1), "ABS", api.Value{})
	want(t, num(1, 2), "ABS", text("-1/2"))
	want(t, num(1, 1), "FACT", truth(false))
	want(t, fault(api.FaultDiv), "MOD", truth(true), api.Value{})
}

// P18.1: the list of values stays as it was.
func TestValuesStay(t *testing.T) {
	for _, f := range table {
		l := []api.Value{num(7, 2), text("6/4"), num(-5, 1)}
		fnum.Do(f.name, l[:f.least]...)
		if !slices.Equal(l, []api.Value{num(7, 2), text("6/4"), num(-5, 1)}) {
			t.Errorf("%s changes its values: %#v", f.name, l)
		}
	}
}

// P18.1: ABS, SIGN, INT and TRUNC.
func TestParts(t *testing.T) {
	for _, x := range samples() {
		v := number(x)
		want(t, number(new(big.Rat).Abs(x)), "ABS", v)
		want(t, num(int64(x.Sign()), 1), "SIGN", v)
		want(t, number(floor(x)), "INT", v)
		want(t, number(trunc(x)), "TRUNC", v)
	}
	for _, c := range []struct{ a, b, abs, sign, floor, trunc int64 }{{7, 2, 7, 1, 3, 3}, {-7, 2, 7, -1, -4, -3}, {0, 1, 0, 0, 0, 0}, {-3, 1, 3, -1, -3, -3}, {-1, 3, 1, -1, -1, 0}} {
		v := num(c.a, c.b)
		want(t, num(c.abs, c.b), "ABS", v)
		want(t, num(c.sign, 1), "SIGN", v)
		want(t, num(c.floor, 1), "INT", v)
		want(t, num(c.trunc, 1), "TRUNC", v)
	}
}

// even is the least even whole number that is not below x, that is not below 0.
func even(x *big.Rat) *big.Rat {
	two := big.NewRat(2, 1)
	half := ceil(new(big.Rat).Quo(x, two))
	return half.Mul(half, two)
}

// outward are the nearest even, and odd, whole numbers that are not nearer to 0 than x.
func outward(x *big.Rat) (toEven, toOdd *big.Rat) {
	amount, one := new(big.Rat).Abs(x), big.NewRat(1, 1)
	toEven = even(amount)
	toOdd = new(big.Rat).Sub(even(new(big.Rat).Add(amount, one)), one)
	if toOdd.Sign() < 0 {
		toOdd = one
	}
	if x.Sign() < 0 {
		toEven, toOdd = toEven.Neg(toEven), new(big.Rat).Neg(toOdd)
	}
	return toEven, toOdd
}

// P18.1: EVEN, ODD, ISEVEN and ISODD.
func TestEvenAndOdd(t *testing.T) {
	for _, c := range []struct {
		a, b, even, odd int64
		isOdd           bool
	}{
		{0, 1, 0, 1, false}, {1, 1, 2, 1, true}, {-1, 1, -2, -1, true}, {2, 1, 2, 3, false}, {-2, 1, -2, -3, false}, {3, 1, 4, 3, true}, {-3, 1, -4, -3, true},
		{1, 2, 2, 1, false}, {-1, 2, -2, -1, false}, {3, 2, 2, 3, true}, {-3, 2, -2, -3, true}, {5, 2, 4, 3, false}, {-5, 2, -4, -3, false}, {7, 3, 4, 3, false}, {-7, 3, -4, -3, false}, {299, 100, 4, 3, false}, {301, 100, 4, 5, true}, {256, 1, 256, 257, false}, {257, 1, 258, 257, true}, {-511, 2, -256, -257, true},
	} {
		v := num(c.a, c.b)
		want(t, num(c.even, 1), "EVEN", v)
		want(t, num(c.odd, 1), "ODD", v)
		want(t, truth(c.isOdd), "ISODD", v)
		want(t, truth(!c.isOdd), "ISEVEN", v)
	}
	for _, x := range samples() {
		v := number(x)
		toEven, toOdd := outward(x)
		want(t, number(toEven), "EVEN", v)
		want(t, number(toOdd), "ODD", v)
		isOdd := trunc(x).Num().Bit(0) == 1
		want(t, truth(isOdd), "ISODD", v)
		want(t, truth(!isOdd), "ISEVEN", v)
	}
}

// P18.1: EVEN of the greatest number has too many bits; ODD of the one below it has not.
func TestEvenAndOddAtTheEnds(t *testing.T) {
	most := ones(256)
	next := new(big.Int).Sub(most, big.NewInt(1))
	want(t, fault(api.FaultNum), "EVEN", whole(most))
	want(t, fault(api.FaultNum), "EVEN", whole(new(big.Int).Neg(most)))
	want(t, whole(most), "ODD", whole(most))
	want(t, whole(most), "ODD", whole(next))
	want(t, whole(next), "EVEN", whole(next))
	least := number(new(big.Rat).SetFrac(big.NewInt(-1), most))
	want(t, num(-2, 1), "EVEN", least)
	want(t, num(-1, 1), "ODD", least)
}

// P18.1: SQRT.
func TestSqrt(t *testing.T) {
	for _, c := range [][4]int64{{0, 1, 0, 1}, {1, 1, 1, 1}, {4, 1, 2, 1}, {4, 9, 2, 3}, {49, 4, 7, 2}, {1, 1000000, 1, 1000}} {
		want(t, num(c[2], c[3]), "SQRT", num(c[0], c[1]))
	}
	for _, c := range [][2]int64{{2, 1}, {-1, 1}, {-4, 1}, {1, 2}, {4, 3}, {3, 4}, {8, 1}, {-1, 4}} {
		want(t, fault(api.FaultNum), "SQRT", num(c[0], c[1]))
	}
	for _, x := range samples() {
		if square := number(new(big.Rat).Mul(x, x)); square.Kind == api.Number {
			want(t, number(new(big.Rat).Abs(x)), "SQRT", square)
		}
	}
}

// P18.1: POWER.
func TestPower(t *testing.T) {
	for _, c := range []struct {
		a, b, n, m int64
		answer     api.Value
	}{
		{2, 3, 3, 1, num(8, 27)}, {2, 3, -3, 1, num(27, 8)}, {-2, 1, 3, 1, num(-8, 1)}, {0, 1, 0, 1, num(1, 1)}, {0, 1, 5, 1, num(0, 1)}, {0, 1, -1, 1, fault(api.FaultDiv)}, {0, 1, -1, 2, fault(api.FaultDiv)},
		{4, 1, 1, 2, num(2, 1)}, {4, 9, -3, 2, num(27, 8)}, {2, 1, 1, 2, fault(api.FaultNum)}, {-4, 1, 1, 2, fault(api.FaultNum)}, {8, 1, 1, 3, fault(api.FaultNum)}, {1, 1, 1, 3, fault(api.FaultNum)}, {2, 1, 256, 1, fault(api.FaultNum)}, {2, 1, -256, 1, fault(api.FaultNum)}, {1, 1, math.MinInt64, 1, num(1, 1)}, {-1, 1, math.MaxInt64, 1, num(-1, 1)}, {1, 1, math.MaxInt64, 2, num(1, 1)},
	} {
		want(t, c.answer, "POWER", num(c.a, c.b), num(c.n, c.m))
	}
	want(t, fault(api.FaultNum), "POWER", num(1, 1), whole(ones(64)))
	want(t, fault(api.FaultNum), "POWER", num(1, 1), whole(ones(256)))
}
