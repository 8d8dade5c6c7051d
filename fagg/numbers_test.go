package fagg_test

import (
	"math/big"
	"slices"
	"testing"

	"abacist/api"
	"abacist/fagg"
)

// some are the functions of all numbers of some arguments.
var some = []string{"SUM", "PRODUCT", "SUMSQ", "COUNT", "MIN", "MAX", "AVERAGE", "MEDIAN", "VAR", "VARP"}

// P19.1: each of these functions, of 4, 1, 7 and 2, and of others.
func TestSome(t *testing.T) {
	for _, c := range []struct {
		l       []api.Value
		answers [10]api.Value
	}{
		{nums(4, 1, 7, 2), [10]api.Value{num(14, 1), num(56, 1), num(70, 1), num(4, 1), num(1, 1), num(7, 1), num(7, 2), num(3, 1), num(7, 1), num(21, 4)}},
		{nums(4, 1, 7), [10]api.Value{num(12, 1), num(28, 1), num(66, 1), num(3, 1), num(1, 1), num(7, 1), num(4, 1), num(4, 1), num(9, 1), num(6, 1)}},
		{nums(5), [10]api.Value{num(5, 1), num(5, 1), num(25, 1), num(1, 1), num(5, 1), num(5, 1), num(5, 1), num(5, 1), fault(1), num(0, 1)}},
		{nums(0), [10]api.Value{num(0, 1), num(0, 1), num(0, 1), num(1, 1), num(0, 1), num(0, 1), num(0, 1), num(0, 1), fault(1), num(0, 1)}},
		{nums(-3, -8), [10]api.Value{num(-11, 1), num(24, 1), num(73, 1), num(2, 1), num(-8, 1), num(-3, 1), num(-11, 2), num(-11, 2), num(25, 2), num(25, 4)}},
		{[]api.Value{num(1, 2), num(1, 3), num(-1, 6)}, [10]api.Value{num(2, 3), num(-1, 36), num(7, 18), num(3, 1), num(-1, 6), num(1, 2), num(2, 9), num(1, 3), num(13, 108), num(13, 162)}},
		{nums(2, 2, 2, 2), [10]api.Value{num(8, 1), num(16, 1), num(16, 1), num(4, 1), num(2, 1), num(2, 1), num(2, 1), num(2, 1), num(0, 1), num(0, 1)}},
	} {
		for i, name := range some {
			want(t, c.answers[i], name, column(c.l...))
			want(t, c.answers[i], name, row(c.l...))
			want(t, c.answers[i], name, singles(c.l...)...)
			want(t, c.answers[i], name, append(singles(c.l[1:]...), column(c.l[0]))...)
			want(t, c.answers[i], name, column(append([]api.Value{blank, text("9"), truth(true)}, c.l...)...))
		}
	}
}

// P19.1: of areas without numbers.
func TestNone(t *testing.T) {
	none := [10]api.Value{num(0, 1), num(0, 1), num(0, 1), num(0, 1), num(0, 1), num(0, 1), fault(api.FaultDiv), fault(api.FaultNum), fault(api.FaultDiv), fault(api.FaultDiv)}
	for i, name := range some {
		for _, a := range []api.Arg{column(blank), row(text("5"), truth(true)), column(text(""), text("a"), truth(false), blank)} {
			want(t, none[i], name, a)
			want(t, none[i], name, a, a, a)
		}
	}
	for _, name := range []string{"LARGE", "SMALL"} {
		want(t, fault(api.FaultNum), name, column(blank, text("5")), single(num(1, 1)))
	}
	want(t, fault(api.FaultNA), "RANK", single(num(0, 1)), column(blank, text("0"), truth(false)))
}

// P19.1: the example: of areas only numbers count, of others what is read as one.
func TestAreasAndOthers(t *testing.T) {
	want(t, num(1, 1), "SUM", column(num(1, 1), text("2"), truth(true)))
	want(t, num(4, 1), "SUM", singles(num(1, 1), text("2"), truth(true))...)
	want(t, num(4, 1), "SUM", column(num(1, 1), text("2")), single(text("2")), single(truth(true)), column(truth(true)), single(blank))
	for i, name := range some {
		want(t, fagg.Do(name, column(nums(3, 0, 1, 0, -5, 2)...)), name, singles(num(3, 1), blank, truth(true), truth(false), text("-5"), text("4/2"))...)
		want(t, [10]api.Value{num(0, 1), num(0, 1), num(0, 1), num(1, 1), num(0, 1), num(0, 1), num(0, 1), num(0, 1), fault(1), num(0, 1)}[i], name, single(blank))
	}
}

// P19.1: a value that is no area, and is not read as a number, is the answer's fault, wherever it is.
func TestNoNumbers(t *testing.T) {
	for _, s := range []string{"", "a", " 1", "1/0", "TRUE", ">3", "1e5", "1" + string(slices.Repeat([]byte("0"), 90))} {
		for _, name := range some {
			for at := range 20 {
				l := slices.Repeat(args(single(num(1, 1))), 20)
				l[at] = single(text(s))
				if name == "COUNT" {
					want(t, num(19, 1), name, l...)
				} else {
					want(t, fault(api.FaultValue), name, l...)
				}
			}
		}
		for _, name := range []string{"LARGE", "SMALL", "RANK"} {
			want(t, fault(api.FaultValue), name, single(text(s)), single(num(1, 1)))
			want(t, fault(api.FaultValue), name, single(num(1, 1)), single(text(s)))
			want(t, fault(api.FaultValue), name, single(text(s)), column(blank))
			want(t, fault(api.FaultValue), name, single(text(s)), single(num(9, 1)))
			want(t, fault(api.FaultValue), name, single(num(9, 1)), single(text(s)))
		}
	}
	// Ahead of what has too many bits.
	most := whole(ones(256))
	for _, name := range []string{"SUM", "PRODUCT", "SUMSQ", "AVERAGE", "MEDIAN", "VAR", "VARP"} {
		want(t, fault(api.FaultNum), name, single(most), single(most))
		want(t, fault(api.FaultValue), name, single(most), single(most), single(text("a")))
	}
}

// P19.1: a sum, or a product, with too many bits on the way is FaultNum, also where what follows would make it less.
func TestTooManyBits(t *testing.T) {
	most, least := whole(ones(256)), whole(new(big.Int).Neg(ones(256)))
	tiny, minus := number(new(big.Rat).SetFrac(big.NewInt(1), ones(256))), number(new(big.Rat).SetFrac(big.NewInt(-1), ones(256)))
	for _, f := range []struct {
		name   string
		l      []api.Value
		answer api.Value
	}{
		{"SUM", []api.Value{most}, most}, {"SUM", []api.Value{most, num(0, 1)}, most}, {"SUM", []api.Value{most, num(1, 1)}, fault(5)}, {"SUM", []api.Value{most, num(1, 1), num(-1, 1)}, fault(5)}, {"SUM", []api.Value{num(-1, 1), num(1, 1), most}, most}, {"SUM", []api.Value{most, least, num(1, 1)}, num(1, 1)}, {"SUM", []api.Value{num(1, 1), most, least}, fault(5)}, {"SUM", []api.Value{least, num(-1, 1), num(1, 1)}, fault(5)}, {"SUM", []api.Value{most, tiny}, fault(5)},
		{"PRODUCT", []api.Value{most, num(1, 1)}, most}, {"PRODUCT", []api.Value{most, num(2, 1)}, fault(5)}, {"PRODUCT", []api.Value{most, num(2, 1), num(0, 1)}, fault(5)}, {"PRODUCT", []api.Value{num(0, 1), most, num(2, 1)}, num(0, 1)}, {"PRODUCT", []api.Value{most, num(2, 1), num(1, 2)}, fault(5)}, {"PRODUCT", []api.Value{most, tiny}, num(1, 1)}, {"PRODUCT", []api.Value{tiny, num(1, 2)}, fault(5)},
		{"SUMSQ", []api.Value{whole(ones(128))}, whole(new(big.Int).Mul(ones(128), ones(128)))}, {"SUMSQ", []api.Value{whole(ones(129))}, fault(5)}, {"SUMSQ", []api.Value{num(0, 1), whole(ones(128)), whole(ones(128))}, fault(5)}, {"SUMSQ", []api.Value{tiny}, fault(5)}, {"SUMSQ", []api.Value{least}, fault(5)},
		{"AVERAGE", []api.Value{most}, most}, {"AVERAGE", []api.Value{most, most}, fault(5)}, {"AVERAGE", []api.Value{tiny, num(0, 1)}, fault(5)}, {"AVERAGE", []api.Value{most, least}, num(0, 1)},
		{"MEDIAN", []api.Value{most, most, most}, most}, {"MEDIAN", []api.Value{most, most}, fault(5)}, {"MEDIAN", []api.Value{tiny, tiny, num(0, 1), num(0, 1)}, fault(5)}, {"MEDIAN", []api.Value{most, least, num(1, 1), num(2, 1)}, num(3, 2)},
		{"MIN", []api.Value{most, least, tiny}, least}, {"MAX", []api.Value{tiny, least, most}, most}, {"MAX", []api.Value{least}, least}, {"MIN", []api.Value{tiny, num(1, 1)}, tiny},
		{"VAR", []api.Value{most}, fault(1)}, {"VARP", []api.Value{most}, num(0, 1)}, {"VAR", []api.Value{most, most}, fault(5)}, {"VARP", []api.Value{most, least}, fault(5)}, {"VAR", []api.Value{whole(ones(127)), whole(new(big.Int).Neg(ones(127)))}, whole(new(big.Int).Lsh(new(big.Int).Mul(ones(127), ones(127)), 1))}, {"VAR", []api.Value{whole(ones(128)), whole(new(big.Int).Neg(ones(128)))}, fault(5)}, {"VARP", []api.Value{whole(ones(128)), whole(new(big.Int).Neg(ones(128)))}, fault(5)}, {"VARP", []api.Value{whole(ones(129)), whole(new(big.Int).Neg(ones(129)))}, fault(5)}, {"VARP", []api.Value{tiny, num(0, 1)}, fault(5)},
		{"VARP", []api.Value{whole(ones(200)), num(1, 3)}, fault(5)},
		// The average is 1/7, and 7 does not divide 2^256 - 1: differences have too many bits.
		{"AVERAGE", append(nums(1, 0, 0, 0, 0), tiny, minus), fault(5)}, {"AVERAGE", append([]api.Value{tiny, minus}, nums(1, 0, 0, 0, 0)...), num(1, 7)}, {"VAR", append([]api.Value{tiny, minus}, nums(1, 0, 0, 0, 0)...), fault(5)}, {"VARP", append([]api.Value{tiny, minus}, nums(1, 0, 0, 0, 0)...), fault(5)},
	} {
		want(t, f.answer, f.name, column(f.l...))
		want(t, f.answer, f.name, singles(f.l...)...)
	}
	want(t, fault(5), "SUMPRODUCT", column(most, num(1, 1)))
	want(t, fault(5), "SUMPRODUCT", column(most, num(0, 1)), column(num(2, 1), num(0, 1)))
	want(t, fault(5), "SUMPRODUCT", column(most), column(num(2, 1)), column(num(0, 1)))
	want(t, fault(5), "SUMPRODUCT", column(most), column(num(2, 1)), column(text("a")))
	want(t, num(0, 1), "SUMPRODUCT", column(text("a")), column(most), column(num(2, 1)))
	want(t, fault(5), "SUMPRODUCT", column(most, num(1, 1), num(-1, 1)))
	want(t, fault(5), "SUMIF", column(most, num(1, 1)), single(text(">0")))
	want(t, most, "SUMIF", column(most, num(0, 1), num(-1, 1)), single(text(">=0")))
	want(t, fault(5), "AVERAGEIF", column(most, most), single(text(">0")))
	want(t, most, "AVERAGEIF", column(most, num(-1, 1)), single(text(">0")))
}

// lists are some lists of numbers, of none on, equal ones among them.
func lists() [][]*big.Rat {
	seed, l := uint32(7), [][]*big.Rat{nil}
	for n := 1; n <= 12; n++ {
		for range 12 {
			var xs []*big.Rat
			for range n {
				seed = seed*1664525 + 1013904223
				xs = append(xs, big.NewRat(int64(seed>>20%41)-20, int64(seed>>10%6)+1))
			}
			l = append(l, xs)
		}
	}
	return l
}

// given is an area of numbers, with a value that is none behind each.
func given(xs []*big.Rat) api.Arg {
	vs := []api.Value{blank}
	for i, x := range xs {
		vs = append(vs, number(x), []api.Value{blank, text("4"), truth(true)}[i%3])
	}
	return column(vs...)
}

// add is all together.
func add(xs []*big.Rat) *big.Rat {
	all := new(big.Rat)
	for _, x := range xs {
		all.Add(all, x)
	}
	return all
}

// dots is the sum of the products of xs and ys.
func dots(xs, ys []*big.Rat) *big.Rat {
	all := new(big.Rat)
	for i, x := range xs {
		all.Add(all, new(big.Rat).Mul(x, ys[i]))
	}
	return all
}

// by is x by n; the fault of a division by 0, or less.
func by(x *big.Rat, n int) api.Value {
	if n <= 0 {
		return fault(api.FaultDiv)
	}
	return number(new(big.Rat).Quo(x, big.NewRat(int64(n), 1)))
}

// P19.1: what is reckoned of many numbers, held against math/big.
func TestManyNumbers(t *testing.T) {
	for _, xs := range lists() {
		a, n := given(xs), len(xs)
		want(t, number(add(xs)), "SUM", a)
		want(t, number(dots(xs, xs)), "SUMSQ", a)
		want(t, num(int64(n), 1), "COUNT", a)
		want(t, by(add(xs), n), "AVERAGE", a)
		product := big.NewRat(min(int64(n), 1), 1)
		for _, x := range xs {
			product.Mul(product, x)
		}
		want(t, number(product), "PRODUCT", a)
		sorted := slices.SortedFunc(slices.Values(xs), (*big.Rat).Cmp)
		if n > 0 {
			want(t, number(sorted[0]), "MIN", a)
			want(t, number(sorted[n-1]), "MAX", a)
			want(t, by(new(big.Rat).Add(sorted[(n-1)/2], sorted[n/2]), 2), "MEDIAN", a)
			average := new(big.Rat).Quo(add(xs), big.NewRat(int64(n), 1))
			var apart []*big.Rat
			for _, x := range xs {
				apart = append(apart, new(big.Rat).Sub(x, average))
			}
			want(t, by(dots(apart, apart), n-1), "VAR", a)
			want(t, by(dots(apart, apart), n), "VARP", a)
		}
		for k := range n {
			at := single(num(int64(k+1), 1))
			want(t, number(sorted[k]), "SMALL", a, at)
			want(t, number(sorted[n-1-k]), "LARGE", a, at)
		}
		for _, x := range xs {
			above := 0
			for _, y := range xs {
				if y.Cmp(x) > 0 {
					above++
				}
			}
			want(t, num(int64(above+1), 1), "RANK", single(number(x)), a)
			want(t, fault(api.FaultNA), "RANK", single(num(1, 1000)), a)
		}
	}
}

// P19.1: LARGE and SMALL: k at its ends and past them, whole or not.
func TestLargeAndSmall(t *testing.T) {
	l := column(num(3, 1), blank, num(7, 1), text("9"), num(3, 1), num(-1, 1))
	for _, c := range []struct{ k, large, small api.Value }{
		{num(1, 1), num(7, 1), num(-1, 1)}, {num(2, 1), num(3, 1), num(3, 1)}, {num(3, 1), num(3, 1), num(3, 1)}, {num(4, 1), num(-1, 1), num(7, 1)}, {num(3, 2), num(7, 1), num(-1, 1)}, {num(499, 100), num(-1, 1), num(7, 1)}, {text("2"), num(3, 1), num(3, 1)}, {truth(true), num(7, 1), num(-1, 1)},
		{num(0, 1), fault(5), fault(5)}, {num(9, 10), fault(5), fault(5)}, {num(-1, 1), fault(5), fault(5)}, {num(5, 1), fault(5), fault(5)}, {num(6, 1), fault(5), fault(5)}, {blank, fault(5), fault(5)}, {truth(false), fault(5), fault(5)}, {num(1<<32+1, 1), fault(5), fault(5)}, {whole(new(big.Int).Add(new(big.Int).Lsh(big.NewInt(1), 64), big.NewInt(1))), fault(5), fault(5)}, {whole(ones(256)), fault(5), fault(5)}, {text("a"), fault(2), fault(2)}, {fault(6), fault(6), fault(6)},
	} {
		for _, k := range []api.Arg{single(c.k), column(c.k)} {
			want(t, c.large, "LARGE", l, k)
			want(t, c.small, "SMALL", l, k)
		}
	}
	for _, name := range []string{"LARGE", "SMALL"} {
		want(t, num(4, 1), name, single(text("4")), single(num(1, 1)))
		want(t, fault(api.FaultValue), name, l, column(nums(1, 2)...))
		want(t, fault(api.FaultValue), name, single(text("a")), column(nums(1, 2)...))
		want(t, fault(api.FaultValue), name, single(text("a")), single(num(5, 1)))
		want(t, fault(api.FaultNA), name, l, column(num(1, 1), fault(api.FaultNA)))
		want(t, fault(api.FaultNum), name, column(text("4")), single(num(1, 1)))
	}
}

// P19.1: RANK: of equal numbers each has the place of the first one.
func TestRank(t *testing.T) {
	l := row(num(3, 1), blank, num(7, 1), text("9"), num(3, 1), num(-1, 1), truth(true))
	for _, c := range []struct{ x, answer api.Value }{
		{num(7, 1), num(1, 1)}, {num(3, 1), num(2, 1)}, {num(-1, 1), num(4, 1)}, {text("3"), num(2, 1)}, {text("6/2"), num(2, 1)},
		{num(9, 1), fault(6)}, {num(0, 1), fault(6)}, {blank, fault(6)}, {num(8, 1), fault(6)}, {num(-2, 1), fault(6)}, {truth(true), fault(6)}, {text("a"), fault(2)}, {fault(3), fault(3)},
	} {
		want(t, c.answer, "RANK", single(c.x), l)
		want(t, c.answer, "RANK", column(c.x), l)
	}
	want(t, num(2, 1), "RANK", single(blank), column(nums(0, 5)...))
	want(t, num(1, 1), "RANK", single(truth(true)), column(nums(0, 1)...))
	want(t, num(1, 1), "RANK", single(num(4, 1)), single(text("4")))
	want(t, fault(api.FaultNA), "RANK", single(num(4, 1)), column(text("4")))
	want(t, fault(api.FaultValue), "RANK", row(nums(1, 1)...), column(num(1, 1)))
	want(t, fault(api.FaultValue), "RANK", row(nums(1, 1)...), single(text("a")))
	want(t, fault(api.FaultRef), "RANK", row(nums(1, 1)...), column(fault(api.FaultRef)))
}

// P19.1: SUMPRODUCT, of arguments with as many values and columns.
func TestSumproduct(t *testing.T) {
	a, b := column(nums(1, 2, 3, 4)...), column(nums(5, -6, 7, 0)...)
	want(t, num(10, 1), "SUMPRODUCT", a)
	want(t, num(14, 1), "SUMPRODUCT", a, b)
	want(t, num(25+72+147, 1), "SUMPRODUCT", a, b, b)
	want(t, num(5+21, 1), "SUMPRODUCT", b, column(num(1, 1), text("2"), num(3, 1), num(4, 1)))
	want(t, num(-12, 1), "SUMPRODUCT", b, column(truth(true), num(2, 1), blank, text("")))
	want(t, num(0, 1), "SUMPRODUCT", column(blank, text("3"), truth(true)))
	want(t, num(6, 1), "SUMPRODUCT", single(num(2, 1)), column(num(3, 1)))
	for _, v := range []api.Value{text("2"), text("a"), truth(true), blank} {
		want(t, num(0, 1), "SUMPRODUCT", single(v))
		want(t, num(0, 1), "SUMPRODUCT", single(v), single(num(3, 1)))
		want(t, num(0, 1), "SUMPRODUCT", single(num(3, 1)), single(v))
	}
	square := api.Arg{Vals: nums(1, 2, 3, 4), Cols: 2, Area: true, Col: 9, Row: 9}
	want(t, num(30, 1), "SUMPRODUCT", square, api.Arg{Vals: nums(1, 2, 3, 4), Cols: 2, Area: true})
	for _, other := range []api.Arg{square, row(nums(1, 2, 3, 4)...), column(nums(1, 2, 3)...), column(nums(1, 2, 3, 4, 5)...), single(num(1, 1)), column(num(1, 1))} {
		want(t, fault(api.FaultValue), "SUMPRODUCT", a, other)
		want(t, fault(api.FaultValue), "SUMPRODUCT", other, a)
		want(t, fault(api.FaultValue), "SUMPRODUCT", a, b, other)
		want(t, fault(api.FaultDiv), "SUMPRODUCT", a, other, single(fault(api.FaultDiv)))
	}
}

// P19.1: SUMPRODUCT, held against math/big.
func TestManyProducts(t *testing.T) {
	all := lists()
	for i, xs := range all {
		for _, ys := range all[max(0, i-12):i] {
			if len(xs) == len(ys) && len(xs) > 0 {
				want(t, number(dots(xs, ys)), "SUMPRODUCT", given(xs), given(ys))
			}
		}
	}
}

// P19.3: SUM, COUNT, MIN and MAX of an area do not mind the order of its values.
func TestAnyOrder(t *testing.T) {
	for _, xs := range lists() {
		a := given(xs)
		for _, name := range []string{"SUM", "COUNT", "MIN", "MAX"} {
			was := fagg.Do(name, a)
			for turn := range a.Vals {
				turned := append(slices.Clone(a.Vals[turn:]), a.Vals[:turn]...)
				want(t, was, name, column(turned...))
				slices.Reverse(turned)
				want(t, was, name, row(turned...))
			}
		}
	}
}

// value is the number that a value has.
func value(v api.Value) *big.Rat {
	x := new(big.Rat).SetFrac(new(big.Int).SetBytes([]byte(v.Num.Num)), new(big.Int).SetBytes([]byte(v.Num.Den)))
	if v.Num.Neg {
		x.Neg(x)
	}
	return x
}

// P19.4: AVERAGE times COUNT is SUM, where there are numbers.
func TestAverageTimesCount(t *testing.T) {
	for _, xs := range lists()[1:] {
		a := given(xs)
		product := new(big.Rat).Mul(value(fagg.Do("AVERAGE", a)), value(fagg.Do("COUNT", a)))
		want(t, number(product), "SUM", a)
	}
}
