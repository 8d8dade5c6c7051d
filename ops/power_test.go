package ops_test

import (
	"math"
	"math/big"
	"testing"

	"abacist/api"
	"abacist/ops"
)

// half is n by 2.
func half(n *big.Int) api.Rat { return quotient(n, big.NewInt(2)) }

// P17.3: exponents that are whole, half, or neither.
func TestPower(t *testing.T) {
	for i, c := range []struct {
		a, b, want api.Rat
		e          api.Errno
	}{
		{of(2, 3), of(3, 1), of(8, 27), api.OK}, {of(2, 3), of(-3, 1), of(27, 8), api.OK}, {of(-2, 3), of(3, 1), of(-8, 27), api.OK}, {of(-2, 3), of(2, 1), of(4, 9), api.OK}, {of(-2, 3), of(-1, 1), of(-3, 2), api.OK}, {of(7, 5), of(0, 1), of(1, 1), api.OK}, {of(0, 1), of(0, 1), of(1, 1), api.OK}, {of(0, 1), of(9, 1), of(0, 1), api.OK},
		{of(4, 1), of(1, 2), of(2, 1), api.OK}, {of(4, 9), of(1, 2), of(2, 3), api.OK}, {of(4, 9), of(3, 2), of(8, 27), api.OK}, {of(4, 9), of(-1, 2), of(3, 2), api.OK}, {of(4, 9), of(-5, 2), of(243, 32), api.OK}, {of(1, 1), of(7, 2), of(1, 1), api.OK}, {of(0, 1), of(1, 2), of(0, 1), api.OK}, {of(0, 1), of(5, 2), of(0, 1), api.OK},
		{of(0, 1), of(-1, 1), api.Rat{}, api.ErrZero}, {of(0, 1), of(-1, 2), api.Rat{}, api.ErrZero}, {of(0, 1), of(-7, 2), api.Rat{}, api.ErrZero},
		{of(2, 1), of(1, 2), api.Rat{}, api.ErrNum}, {of(4, 3), of(1, 2), api.Rat{}, api.ErrNum}, {of(3, 4), of(1, 2), api.Rat{}, api.ErrNum}, {of(-4, 1), of(1, 2), api.Rat{}, api.ErrNum}, {of(-1, 1), of(1, 2), api.Rat{}, api.ErrNum}, {of(-1, 1), of(-3, 2), api.Rat{}, api.ErrNum}, {of(2, 1), of(-1, 2), api.Rat{}, api.ErrNum},
		{of(8, 1), of(1, 3), api.Rat{}, api.ErrNum}, {of(16, 1), of(1, 4), api.Rat{}, api.ErrNum}, {of(16, 1), of(3, 4), api.Rat{}, api.ErrNum}, {of(1, 1), of(1, 3), api.Rat{}, api.ErrNum}, {of(0, 1), of(1, 3), api.Rat{}, api.ErrNum}, {of(0, 1), of(-2, 3), api.Rat{}, api.ErrNum}, {of(1, 1), of(-5, 6), api.Rat{}, api.ErrNum},
		{of(2, 1), of(255, 1), quotient(twoTo(255), big.NewInt(1)), api.OK}, {of(2, 1), of(256, 1), api.Rat{}, api.ErrNum}, {of(2, 1), of(-255, 1), quotient(big.NewInt(1), twoTo(255)), api.OK}, {of(2, 1), of(-256, 1), api.Rat{}, api.ErrNum}, {of(1, 2), of(256, 1), api.Rat{}, api.ErrNum}, {of(4, 1), of(255, 2), quotient(twoTo(255), big.NewInt(1)), api.OK}, {of(4, 1), of(257, 2), api.Rat{}, api.ErrNum}, {of(4, 1), of(-257, 2), api.Rat{}, api.ErrNum},
	} {
		if got, e := ops.Power(c.a, c.b); got != c.want || e != c.e {
			t.Errorf("%d: Power of %#v and %#v: %#v %d", i, c.a, c.b, got, e)
		}
	}
}

// P17.3: exponents at the ends of 64 bits, and halves of these.
func TestPowerAtTheEnds(t *testing.T) {
	one, none := of(1, 1), api.Rat{}
	most, least := big.NewInt(math.MaxInt64), big.NewInt(math.MinInt64)
	above, below := new(big.Int).Add(most, big.NewInt(1)), new(big.Int).Sub(least, big.NewInt(1))
	odd := new(big.Int).Add(least, big.NewInt(1))
	whole := func(n *big.Int) api.Rat { return quotient(n, big.NewInt(1)) }
	for i, c := range []struct {
		a, b, want api.Rat
		e          api.Errno
	}{
		{one, whole(most), one, api.OK}, {one, whole(least), one, api.OK}, {one, whole(above), none, api.ErrNum}, {one, whole(below), none, api.ErrNum},
		{of(-1, 1), whole(most), of(-1, 1), api.OK}, {of(-1, 1), whole(least), one, api.OK}, {of(-1, 1), whole(odd), of(-1, 1), api.OK}, {of(-1, 1), whole(above), none, api.ErrNum}, {of(-1, 1), whole(below), none, api.ErrNum},
		{of(0, 1), whole(most), of(0, 1), api.OK}, {of(0, 1), whole(least), none, api.ErrZero}, {of(0, 1), whole(above), none, api.ErrNum}, {of(0, 1), whole(below), none, api.ErrNum},
		{of(2, 1), whole(most), none, api.ErrNum}, {of(2, 1), whole(least), none, api.ErrNum},
		{one, half(most), one, api.OK}, {one, half(odd), one, api.OK}, {one, half(below), none, api.ErrNum}, {one, half(new(big.Int).Add(above, big.NewInt(1))), none, api.ErrNum},
		{of(0, 1), half(most), of(0, 1), api.OK}, {of(0, 1), half(odd), none, api.ErrZero}, {of(0, 1), half(below), none, api.ErrNum}, {of(0, 1), half(new(big.Int).Add(above, big.NewInt(1))), none, api.ErrNum},
		{of(-1, 1), half(most), none, api.ErrNum}, {of(4, 1), half(most), none, api.ErrNum}, {of(4, 1), half(odd), none, api.ErrNum},
		{one, whole(ones(256)), none, api.ErrNum}, {one, whole(new(big.Int).Neg(ones(256))), none, api.ErrNum}, {of(0, 1), whole(twoTo(255)), none, api.ErrNum}, {one, half(ones(256)), none, api.ErrNum}, {one, half(ones(65)), none, api.ErrNum},
		{one, quotient(big.NewInt(1), twoTo(255)), none, api.ErrNum}, {one, quotient(big.NewInt(1), ones(256)), none, api.ErrNum}, {one, quotient(ones(256), big.NewInt(4)), none, api.ErrNum},
	} {
		if got, e := ops.Power(c.a, c.b); got != c.want || e != c.e {
			t.Errorf("%d: Power of %#v and %#v: %#v %d", i, c.a, c.b, got, e)
		}
	}
}

// P17.3: to the power of n by 2 is the root to the power of n, of what is a square.
func TestPowerOfRoots(t *testing.T) {
	for _, side := range []api.Rat{of(1, 1), of(2, 1), of(3, 2), of(1, 10), of(7, 3), quotient(ones(128), big.NewInt(1)), quotient(big.NewInt(1), ones(128))} {
		square, e := ops.Power(side, of(2, 1))
		if e != api.OK {
			t.Fatalf("no square of %s", given(side))
		}
		for n := int64(-9); n <= 9; n += 2 {
			want, known := power(given(side), big.NewRat(n, 1))
			got, e := ops.Power(square, of(n, 2))
			if known && want.Kind == api.Number && (got != want.Num || e != api.OK) || want.Kind == api.Fault && (got != api.Rat{} || e != api.ErrNum) {
				t.Errorf("the square of %s to the power of %d/2: %#v %d", given(side), n, got, e)
			}
			opposite := square
			opposite.Neg = true
			if got, e := ops.Power(opposite, of(n, 2)); got != (api.Rat{}) || e != api.ErrNum {
				t.Errorf("what is below 0 to the power of %d/2: %#v %d", n, got, e)
			}
		}
	}
}

// P17.3, by package round: what is not right counts as 0.
func TestPowerOfWhatIsNotRight(t *testing.T) {
	for _, wrong := range []api.Rat{{}, {Num: "\x05"}, {Num: "\x06", Den: "\x04"}, {Neg: true, Den: "\x01"}, {Num: "\x00\x04", Den: "\x01"}, {Num: "\x01" + string(make([]byte, 32)), Den: "\x01"}} {
		if got, e := ops.Power(wrong, of(3, 1)); got != of(0, 1) || e != api.OK {
			t.Errorf("Power of %#v and 3: %#v %d", wrong, got, e)
		}
		if got, e := ops.Power(wrong, of(-1, 1)); got != (api.Rat{}) || e != api.ErrZero {
			t.Errorf("Power of %#v and -1: %#v %d", wrong, got, e)
		}
		if got, e := ops.Power(wrong, of(1, 2)); got != of(0, 1) || e != api.OK {
			t.Errorf("Power of %#v and 1/2: %#v %d", wrong, got, e)
		}
		if got, e := ops.Power(of(7, 1), wrong); got != of(1, 1) || e != api.OK {
			t.Errorf("Power of 7 and %#v: %#v %d", wrong, got, e)
		}
	}
}
