package fnum_test

import (
	"math"
	"math/big"
	"slices"
	"testing"

	"abacist/api"
	"abacist/fnum"
)

// away is x's whole part, one farther from 0, if x is not whole.
func away(x *big.Rat) *big.Rat {
	if x.Sign() < 0 {
		return floor(x)
	}
	return ceil(x)
}

// nearest is the whole number that is nearest to x, of two the one away from 0.
func nearest(x *big.Rat) *big.Rat {
	half := big.NewRat(1, 2)
	if x.Sign() < 0 {
		return ceil(new(big.Rat).Sub(x, half))
	}
	return floor(new(big.Rat).Add(x, half))
}

// rounders are the functions that round to places, each beside what it does without places.
func rounders() map[string]func(x *big.Rat) *big.Rat {
	return map[string]func(x *big.Rat) *big.Rat{"ROUND": nearest, "ROUNDDOWN": trunc, "ROUNDUP": away}
}

// P18.1: ROUND, ROUNDDOWN and ROUNDUP, to places of either sign.
func TestPlaces(t *testing.T) {
	for _, c := range []struct {
		a, b, n        int64
		half, down, up api.Value
	}{
		{5, 2, 0, num(3, 1), num(2, 1), num(3, 1)}, {-5, 2, 0, num(-3, 1), num(-2, 1), num(-3, 1)}, {12, 5, 0, num(2, 1), num(2, 1), num(3, 1)}, {-12, 5, 0, num(-2, 1), num(-2, 1), num(-3, 1)}, {1, 2, 0, num(1, 1), num(0, 1), num(1, 1)}, {-1, 2, 0, num(-1, 1), num(0, 1), num(-1, 1)},
		{1, 3, 2, num(33, 100), num(33, 100), num(34, 100)}, {1, 8, 2, num(13, 100), num(12, 100), num(13, 100)}, {-1, 8, 2, num(-13, 100), num(-12, 100), num(-13, 100)}, {1, 4, 2, num(1, 4), num(1, 4), num(1, 4)}, {0, 1, 7, num(0, 1), num(0, 1), num(0, 1)},
		{1234, 1, -2, num(1200, 1), num(1200, 1), num(1300, 1)}, {1250, 1, -2, num(1300, 1), num(1200, 1), num(1300, 1)}, {-1250, 1, -2, num(-1300, 1), num(-1200, 1), num(-1300, 1)}, {4, 1, -1, num(0, 1), num(0, 1), num(10, 1)}, {5, 1, -1, num(10, 1), num(0, 1), num(10, 1)},
		{7, 1, -60, num(0, 1), num(0, 1), number(power(60))}, {1, 3, 60, number(new(big.Rat).Mul(floor(new(big.Rat).Mul(big.NewRat(1, 3), power(60))), power(-60))), number(new(big.Rat).Mul(floor(new(big.Rat).Mul(big.NewRat(1, 3), power(60))), power(-60))), number(new(big.Rat).Mul(ceil(new(big.Rat).Mul(big.NewRat(1, 3), power(60))), power(-60)))},
	} {
		x, n := num(c.a, c.b), num(c.n, 1)
		want(t, c.half, "ROUND", x, n)
		want(t, c.down, "ROUNDDOWN", x, n)
		want(t, c.up, "ROUNDUP", x, n)
	}
	for name, rounded := range rounders() {
		for _, x := range samples() {
			for _, n := range []int{0, 1, -1, 2, -2, 3, 19, -19, 59, 60, -59, -60} {
				whole := rounded(new(big.Rat).Mul(x, power(n)))
				want(t, number(whole.Mul(whole, power(-n))), name, number(x), num(int64(n), 1))
			}
		}
	}
}

// P18.1: places that are no count, or out of round's range.
func TestNoPlaces(t *testing.T) {
	for name := range rounders() {
		for _, n := range []api.Value{num(61, 1), num(-61, 1), num(1000000, 1), num(-1000000, 1), num(1000001, 1), num(-1000001, 1), num(1, 2), num(-1, 2), num(5, 2), num(121, 2), num(1<<32, 1), num(1<<32+1, 1), num(math.MaxInt64, 1), num(math.MinInt64, 1), whole(ones(64)), whole(ones(256)), whole(new(big.Int).Lsh(big.NewInt(1), 64))} {
			for _, x := range []api.Value{num(0, 1), num(5, 2), num(-1250, 1)} {
				want(t, fault(api.FaultNum), name, x, n)
			}
		}
		want(t, num(-5, 1), name, num(-5, 1), api.Value{})
		want(t, num(5, 2), name, num(5, 2), truth(true))
		want(t, fault(api.FaultNum), name, num(5, 2), text("0.5"))
	}
	want(t, fault(api.FaultNum), "ROUNDUP", whole(ones(256)), num(-60, 1))
}

// given is the number that a value has.
func given(v api.Value) *big.Rat {
	x := new(big.Rat).SetFrac(new(big.Int).SetBytes([]byte(v.Num.Num)), new(big.Int).SetBytes([]byte(v.Num.Den)))
	if v.Num.Neg {
		x.Neg(x)
	}
	return x
}

// between is whether y lies from 0 to x.
func between(y, x *big.Rat) bool {
	if x.Sign() < 0 {
		return y.Sign() <= 0 && y.Cmp(x) >= 0
	}
	return y.Sign() >= 0 && y.Cmp(x) <= 0
}

// P18.2: ROUNDDOWN is at most x in amount, ROUNDUP at least; and both have its sign.
func TestDownAndUp(t *testing.T) {
	for _, x := range samples() {
		for n := int64(-60); n <= 60; n += 5 {
			down, up := fnum.Do("ROUNDDOWN", number(x), num(n, 1)), fnum.Do("ROUNDUP", number(x), num(n, 1))
			if down.Kind == api.Number && !between(given(down), x) {
				t.Errorf("ROUNDDOWN of %s and %d: %s", x, n, given(down))
			}
			if up.Kind == api.Number && !between(x, given(up)) {
				t.Errorf("ROUNDUP of %s and %d: %s", x, n, given(up))
			}
		}
	}
}

// stepped is s times x by s, rounded; the fault where one on the way has too many bits.
func stepped(rounded func(x *big.Rat) *big.Rat, x, s *big.Rat) api.Value {
	if s.Sign() == 0 {
		return num(0, 1)
	}
	often := new(big.Rat).Quo(x, s)
	if v := number(often); v.Kind == api.Fault {
		return v
	}
	times := rounded(often)
	return number(times.Mul(times, s))
}

// P18.1: CEILING and FLOOR, also by 0, and by steps below 0.
func TestSteps(t *testing.T) {
	for _, c := range []struct{ x, s, ceil, floor [2]int64 }{
		{[2]int64{7, 1}, [2]int64{3, 1}, [2]int64{9, 1}, [2]int64{6, 1}}, {[2]int64{-7, 1}, [2]int64{3, 1}, [2]int64{-6, 1}, [2]int64{-9, 1}}, {[2]int64{7, 1}, [2]int64{-3, 1}, [2]int64{6, 1}, [2]int64{9, 1}}, {[2]int64{-7, 1}, [2]int64{-3, 1}, [2]int64{-9, 1}, [2]int64{-6, 1}},
		{[2]int64{6, 1}, [2]int64{3, 1}, [2]int64{6, 1}, [2]int64{6, 1}}, {[2]int64{7, 2}, [2]int64{1, 3}, [2]int64{11, 3}, [2]int64{10, 3}}, {[2]int64{1, 10}, [2]int64{1, 4}, [2]int64{1, 4}, [2]int64{0, 1}}, {[2]int64{5, 1}, [2]int64{0, 1}, [2]int64{0, 1}, [2]int64{0, 1}}, {[2]int64{0, 1}, [2]int64{0, 1}, [2]int64{0, 1}, [2]int64{0, 1}}, {[2]int64{0, 1}, [2]int64{7, 1}, [2]int64{0, 1}, [2]int64{0, 1}},
	} {
		x, s := num(c.x[0], c.x[1]), num(c.s[0], c.s[1])
		want(t, num(c.ceil[0], c.ceil[1]), "CEILING", x, s)
		want(t, num(c.floor[0], c.floor[1]), "FLOOR", x, s)
	}
	for _, x := range samples() {
		for _, s := range samples() {
			want(t, stepped(ceil, x, s), "CEILING", number(x), number(s))
			want(t, stepped(floor, x, s), "FLOOR", number(x), number(s))
		}
	}
}

// P18.1: CEILING and FLOOR with a step of 0 are 0 of all numbers; and where what is told has too many bits.
func TestStepsAtTheEnds(t *testing.T) {
	most := whole(ones(256))
	for _, name := range []string{"CEILING", "FLOOR"} {
		want(t, num(0, 1), name, most, num(0, 1))
		want(t, num(0, 1), name, most, api.Value{})
		want(t, num(0, 1), name, num(-3, 2), truth(false))
		want(t, most, name, most, num(1, 1))
		want(t, most, name, most, most)
	}
	want(t, fault(api.FaultNum), "CEILING", most, num(2, 1))
	want(t, whole(new(big.Int).Sub(ones(256), big.NewInt(1))), "FLOOR", most, num(2, 1))
}

// P18.1: MOD and QUOTIENT.
func TestModAndQuotient(t *testing.T) {
	for _, c := range []struct {
		x, y [2]int64
		mod  api.Value
		quo  int64
	}{
		{[2]int64{7, 1}, [2]int64{2, 1}, num(1, 1), 3}, {[2]int64{-7, 1}, [2]int64{2, 1}, num(1, 1), -3}, {[2]int64{7, 1}, [2]int64{-2, 1}, num(-1, 1), -3}, {[2]int64{-7, 1}, [2]int64{-2, 1}, num(-1, 1), 3}, {[2]int64{6, 1}, [2]int64{3, 1}, num(0, 1), 2}, {[2]int64{7, 2}, [2]int64{1, 3}, num(1, 6), 10}, {[2]int64{0, 1}, [2]int64{5, 1}, num(0, 1), 0}, {[2]int64{1, 1}, [2]int64{-5, 1}, num(-4, 1), 0},
	} {
		x, y := num(c.x[0], c.x[1]), num(c.y[0], c.y[1])
		want(t, c.mod, "MOD", x, y)
		want(t, num(c.quo, 1), "QUOTIENT", x, y)
	}
	for _, x := range samples() {
		for _, y := range samples() {
			if y.Sign() == 0 {
				want(t, fault(api.FaultDiv), "MOD", number(x), number(y))
				want(t, fault(api.FaultDiv), "QUOTIENT", number(x), number(y))
				continue
			}
			by := new(big.Rat).Quo(x, y)
			often := floor(by)
			want(t, number(new(big.Rat).Sub(x, often.Mul(often, y))), "MOD", number(x), number(y))
			if v := number(by); v.Kind == api.Fault {
				want(t, v, "QUOTIENT", number(x), number(y))
			} else {
				want(t, number(trunc(by)), "QUOTIENT", number(x), number(y))
			}
		}
	}
}

// P18.3: MOD(x, y) and y times INT(x / y) are x, where no fault is.
func TestModIsWhatIsLeft(t *testing.T) {
	tried := 0
	for _, x := range samples() {
		for _, y := range samples() {
			if y.Sign() == 0 {
				continue
			}
			mod, often := fnum.Do("MOD", number(x), number(y)), fnum.Do("INT", number(new(big.Rat).Quo(x, y)))
			if mod.Kind == api.Fault || often.Kind == api.Fault {
				continue
			}
			tried++
			sum := new(big.Rat).Mul(y, given(often))
			if sum.Add(sum, given(mod)).Cmp(x) != 0 {
				t.Errorf("MOD of %s and %s: %s", x, y, given(mod))
			}
		}
	}
	if tried == 0 {
		t.Error("no MOD without a fault")
	}
}

// P18.1: FACT, of counts from 0 to 60; from 58 on it has too many bits.
func TestFact(t *testing.T) {
	product := big.NewInt(1)
	for n := int64(0); n <= 60; n++ {
		if n > 0 {
			product.Mul(product, big.NewInt(n))
		}
		want(t, whole(product), "FACT", num(n, 1))
		want(t, whole(product), "FACT", num(3*n+2, 3))
	}
	want(t, num(120, 1), "FACT", num(5, 1))
	want(t, num(1, 1), "FACT", num(-1, 2))
	want(t, num(1, 1), "FACT", num(-999, 1000))
	for _, x := range []api.Value{num(-1, 1), num(-3, 2), num(61, 1), num(1000000, 1), num(1000001, 1), num(-1000001, 1), num(1<<32, 1), num(1<<32+3, 1), num(math.MinInt64, 1), num(math.MaxInt64, 1), whole(ones(256)), whole(new(big.Int).Lsh(big.NewInt(1), 64))} {
		want(t, fault(api.FaultNum), "FACT", x)
	}
}

// P18.1: COMBIN, of counts k from 0 to n, n at most 200.
func TestCombin(t *testing.T) {
	for n := range int64(201) {
		for k := range n + 1 {
			want(t, whole(new(big.Int).Binomial(n, k)), "COMBIN", num(n, 1), num(k, 1))
		}
		want(t, fault(api.FaultNum), "COMBIN", num(n, 1), num(n+1, 1))
		want(t, fault(api.FaultNum), "COMBIN", num(n, 1), num(-1, 1))
	}
	for _, c := range []struct{ n, k, answer api.Value }{
		{num(5, 1), num(2, 1), num(10, 1)}, {num(11, 2), num(14, 5), num(10, 1)}, {num(5, 1), num(-1, 2), num(1, 1)}, {num(-1, 2), num(-1, 2), num(1, 1)}, {num(-1, 2), num(1, 2), num(1, 1)}, {num(5, 1), num(11, 2), num(1, 1)}, {num(401, 2), num(1, 1), num(200, 1)}, {api.Value{}, truth(false), num(1, 1)},
		{num(201, 1), num(0, 1), fault(5)}, {num(201, 1), num(201, 1), fault(5)}, {num(-1, 1), num(0, 1), fault(5)}, {num(-1, 1), num(-1, 1), fault(5)}, {num(-2, 1), num(1, 1), fault(5)}, {num(5, 1), num(6, 1), fault(5)}, {num(5, 1), num(-3, 2), fault(5)}, {num(1000000, 1), num(1, 1), fault(5)}, {num(1000001, 1), num(1, 1), fault(5)}, {num(5, 1), num(1000001, 1), fault(5)}, {num(5, 1), num(1<<32, 1), fault(5)}, {num(1<<32+5, 1), num(2, 1), fault(5)}, {whole(ones(256)), num(2, 1), fault(5)}, {num(5, 1), whole(new(big.Int).Lsh(big.NewInt(1), 64)), fault(5)},
	} {
		want(t, c.answer, "COMBIN", c.n, c.k)
	}
}

// P18.1: GCD and LCM, of one value to twenty.
func TestDivisorAndMultiple(t *testing.T) {
	for _, c := range []struct {
		l        []int64
		gcd, lcm int64
	}{
		{[]int64{0}, 0, 0}, {[]int64{7}, 7, 7}, {[]int64{1000000}, 1000000, 1000000}, {[]int64{12, 18}, 6, 36}, {[]int64{18, 12}, 6, 36}, {[]int64{0, 0}, 0, 0}, {[]int64{0, 5}, 5, 0}, {[]int64{5, 0}, 5, 0}, {[]int64{1, 5}, 1, 5}, {[]int64{0, 0, 0, 9}, 9, 0}, {[]int64{9, 0, 6}, 3, 0}, {[]int64{4, 6, 10}, 2, 60}, {[]int64{6, 10, 15}, 1, 30}, {[]int64{1, 2, 3, 4, 5, 6, 7, 8, 9, 10, 11, 12, 13, 14, 15, 16, 17, 18, 19, 20}, 1, 232792560}, {[]int64{1000000, 999999}, 1, 999999000000},
	} {
		want(t, num(c.gcd, 1), "GCD", nums(c.l...)...)
		want(t, num(c.lcm, 1), "LCM", nums(c.l...)...)
	}
	want(t, num(6, 1), "GCD", num(25, 2), num(56, 3))
	want(t, num(36, 1), "LCM", num(25, 2), num(56, 3))
	want(t, num(3, 1), "GCD", num(-1, 2), num(3, 1))
	want(t, num(0, 1), "LCM", num(-1, 2), num(3, 1))
	want(t, num(1000000, 1), "GCD", num(2000001, 2))
	want(t, num(1000000, 1), "LCM", num(2000001, 2))
	want(t, num(6, 1), "GCD", text("12"), num(18, 1), api.Value{})
}

// P18.1: of what is no count, or below 0, GCD and LCM are a fault, also beside a 0.
func TestNoDivisorAndMultiple(t *testing.T) {
	for _, x := range []api.Value{num(-1, 1), num(-3, 2), num(-1000000, 1), num(1000001, 1), num(-1000001, 1), num(1<<32, 1), num(1<<32+6, 1), num(math.MaxInt64, 1), num(math.MinInt64, 1), whole(ones(256)), whole(new(big.Int).Lsh(big.NewInt(1), 64))} {
		for _, name := range []string{"GCD", "LCM"} {
			want(t, fault(api.FaultNum), name, x)
			want(t, fault(api.FaultNum), name, x, num(0, 1))
			want(t, fault(api.FaultNum), name, num(0, 1), x)
			want(t, fault(api.FaultNum), name, append(nums(1, 2, 3, 4, 5, 6, 7, 8, 9, 10, 11, 12, 13, 14, 15, 16, 17, 18, 19), x)...)
		}
	}
}

// P18.1: LCM with too many bits is a fault; with a 0 it is 0.
func TestGreatMultiple(t *testing.T) {
	multiple, l := big.NewInt(1), []api.Value(nil)
	for _, prime := range []int64{999983, 999979, 999961, 999959, 999953, 999931, 999917, 999907, 999883, 999863, 999853, 999809, 999773} {
		multiple.Mul(multiple, big.NewInt(prime))
		l = append(l, num(prime, 1))
		want(t, whole(multiple), "LCM", l...)
		want(t, num(0, 1), "LCM", append(slices.Clone(l), num(0, 1))...)
		want(t, num(0, 1), "LCM", append(nums(0), l...)...)
	}
	if multiple.BitLen() <= api.MaxBits {
		t.Error("no multiple with too many bits was tried")
	}
}

// P18.4: LCM times GCD of two counts is their product.
func TestMultipleTimesDivisor(t *testing.T) {
	counts := []int64{0, 1, 2, 3, 4, 6, 12, 18, 255, 256, 1000, 65536, 99990, 720720, 999999, 1000000}
	for _, a := range counts {
		for _, b := range counts {
			gcd, lcm := fnum.Do("GCD", nums(a, b)...), fnum.Do("LCM", nums(a, b)...)
			if gcd.Kind != api.Number || lcm.Kind != api.Number {
				t.Errorf("GCD and LCM of %d and %d: %#v %#v", a, b, gcd, lcm)
				continue
			}
			if product := new(big.Rat).Mul(given(gcd), given(lcm)); product.Cmp(big.NewRat(a*b, 1)) != 0 {
				t.Errorf("GCD times LCM of %d and %d: %s", a, b, product)
			}
			if bigGcd := new(big.Int).GCD(nil, nil, big.NewInt(a), big.NewInt(b)); given(gcd).Cmp(new(big.Rat).SetInt(bigGcd)) != 0 {
				t.Errorf("GCD of %d and %d: %#v", a, b, gcd)
			}
		}
	}
}
