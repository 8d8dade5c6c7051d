package round_test

import (
	"math"
	"math/big"
	"testing"

	"abacist/api"
	"abacist/rat"
	"abacist/round"
)

var zero = api.Rat{Den: "\x01"}

// ones is the number of so many bits that are all 1: of 256 the greatest that a number may have.
func ones(bits uint) *big.Int {
	n := new(big.Int).Lsh(big.NewInt(1), bits)
	return n.Sub(n, big.NewInt(1))
}

// tenTo is 10^n.
func tenTo(n int) *big.Int {
	return new(big.Int).Exp(big.NewInt(10), big.NewInt(int64(n)), nil)
}

// told is a number as api has it; ErrNum, if it has too many bits.
func told(x *big.Rat) (api.Rat, api.Errno) {
	if x.Num().BitLen() > api.MaxBits || x.Denom().BitLen() > api.MaxBits {
		return api.Rat{}, api.ErrNum
	}
	return api.Rat{Neg: x.Sign() < 0, Num: string(x.Num().Bytes()), Den: string(x.Denom().Bytes())}, api.OK
}

// of is a small fraction.
func of(num, den int64) api.Rat {
	r, _ := told(big.NewRat(num, den))
	return r
}

// samples are numbers at the edges of bytes, of words, of halves and of MaxBits, each also below 0.
func samples() []api.Rat {
	nums := []*big.Int{big.NewInt(0), big.NewInt(1), big.NewInt(5), big.NewInt(7), big.NewInt(15), big.NewInt(1234), big.NewInt(12345678987654321), ones(63), new(big.Int).Lsh(big.NewInt(1), 63), ones(64), tenTo(40), ones(255), ones(256)}
	dens := []*big.Int{big.NewInt(1), big.NewInt(2), big.NewInt(3), big.NewInt(20), big.NewInt(1000), tenTo(17), ones(128), tenTo(60), ones(256)}
	var l []api.Rat
	seen := map[api.Rat]bool{}
	for _, num := range nums {
		for _, den := range dens {
			for _, sign := range []int64{1, -1} {
				r, _ := told(new(big.Rat).SetFrac(new(big.Int).Mul(num, big.NewInt(sign)), den))
				if !seen[r] {
					seen[r] = true
					l = append(l, r)
				}
			}
		}
	}
	return l
}

// wrongs are not right.
func wrongs() []api.Rat {
	great := string(new(big.Int).Add(ones(256), big.NewInt(1)).Bytes())
	return []api.Rat{{}, {Num: "\x05"}, {Num: "\x05", Den: "\x00"}, {Num: "\x00\x05", Den: "\x01"}, {Num: "\x05", Den: "\x00\x02"}, {Neg: true, Den: "\x01"}, {Den: "\x02"}, {Num: "\x06", Den: "\x04"}, {Num: "\x04", Den: "\x04"}, {Num: great, Den: "\x01"}, {Neg: true, Num: "\x01", Den: great}}
}

func number(r api.Rat) *big.Rat {
	x := new(big.Rat).SetFrac(new(big.Int).SetBytes([]byte(r.Num)), new(big.Int).SetBytes([]byte(r.Den)))
	if r.Neg {
		x.Neg(x)
	}
	return x
}

// floor is the greatest whole number that is not above x.
func floor(x *big.Rat) *big.Rat {
	return new(big.Rat).SetInt(new(big.Int).Div(x.Num(), x.Denom()))
}

// ceil is the least whole number that is not below x.
func ceil(x *big.Rat) *big.Rat {
	below := floor(new(big.Rat).Neg(x))
	return below.Neg(below)
}

// cut is x's whole part.
func cut(x *big.Rat) *big.Rat {
	return new(big.Rat).SetInt(new(big.Int).Quo(x.Num(), x.Denom()))
}

func check(t *testing.T, got api.Rat, e api.Errno, want *big.Rat, call string, args ...any) {
	t.Helper()
	if wanted, wantErr := told(want); got != wanted || e != wantErr {
		t.Errorf("%s of %#v: %#v %d, want %s", call, args, got, e, want)
	}
}

// P6.1: Whole and Small.
func TestWholeAndSmall(t *testing.T) {
	for _, r := range samples() {
		x := number(r)
		if got := round.Whole(r); got != x.IsInt() {
			t.Errorf("Whole of %s: %v", x, got)
		}
		n, ok := round.Small(r)
		if want := x.IsInt() && x.Num().IsInt64(); ok != want || ok && n != x.Num().Int64() || !ok && n != 0 {
			t.Errorf("Small of %s: %d %v", x, n, ok)
		}
	}
	for _, n := range []int64{0, 1, -1, 258, math.MaxInt64, math.MinInt64} {
		if got, ok := round.Small(of(n, 1)); got != n || !ok {
			t.Errorf("Small of %d: %d %v", n, got, ok)
		}
	}
	above, _ := rat.Add(of(math.MaxInt64, 1), of(1, 1))
	below, _ := rat.Sub(of(math.MinInt64, 1), of(1, 1))
	for _, r := range []api.Rat{above, below, of(1, 2), of(-7, 3)} {
		if n, ok := round.Small(r); n != 0 || ok {
			t.Errorf("Small of %s: %d %v", number(r), n, ok)
		}
	}
}

// P6.1: Floor, Ceil and Trunc. P6.4: Floor is at most r, and r below it and 1.
func TestFloorCeilTrunc(t *testing.T) {
	for _, c := range []struct {
		num, den, floor, ceil, trunc int64
	}{{7, 2, 3, 4, 3}, {-7, 2, -4, -3, -3}, {6, 2, 3, 3, 3}, {-6, 2, -3, -3, -3}, {0, 1, 0, 0, 0}, {1, 3, 0, 1, 0}, {-1, 3, -1, 0, 0}, {-2, 3, -1, 0, 0}} {
		r := of(c.num, c.den)
		floor, e := round.Floor(r)
		ceil, f := round.Ceil(r)
		if trunc := round.Trunc(r); floor != of(c.floor, 1) || e != api.OK || ceil != of(c.ceil, 1) || f != api.OK || trunc != of(c.trunc, 1) {
			t.Errorf("Floor, Ceil and Trunc of %d/%d: %#v %#v %#v", c.num, c.den, floor, ceil, trunc)
		}
	}
	one := big.NewRat(1, 1)
	for _, r := range samples() {
		x := number(r)
		below, e := round.Floor(r)
		check(t, below, e, floor(x), "Floor", r)
		above, e := round.Ceil(r)
		check(t, above, e, ceil(x), "Ceil", r)
		check(t, round.Trunc(r), api.OK, cut(x), "Trunc", r)
		if y := number(below); y.Cmp(x) > 0 || y.Add(y, one).Cmp(x) <= 0 {
			t.Errorf("Floor of %s is not next to it: %#v", x, below)
		}
	}
}

// P6.2: Half, Down and Up, as the chapter tells them.
func TestPlaces(t *testing.T) {
	for _, c := range []struct {
		num, den       int64
		places         int
		half, down, up api.Rat
	}{
		{5, 2, 0, of(3, 1), of(2, 1), of(3, 1)},
		{-5, 2, 0, of(-3, 1), of(-2, 1), of(-3, 1)},
		{1234, 1, -2, of(1200, 1), of(1200, 1), of(1300, 1)},
		{-1234, 1, -2, of(-1200, 1), of(-1200, 1), of(-1300, 1)},
		{1250, 1, -2, of(1300, 1), of(1200, 1), of(1300, 1)},
		{49, 1, -2, zero, zero, of(100, 1)},
		{50, 1, -2, of(100, 1), zero, of(100, 1)},
		{-51, 1, -2, of(-100, 1), zero, of(-100, 1)},
		{2, 3, 2, of(67, 100), of(66, 100), of(67, 100)},
		{-2, 3, 2, of(-67, 100), of(-66, 100), of(-67, 100)},
		{1, 3, 2, of(33, 100), of(33, 100), of(34, 100)},
		{125, 1000, 2, of(13, 100), of(12, 100), of(13, 100)},
		{124999, 1000000, 2, of(12, 100), of(12, 100), of(13, 100)},
		{1, 4, 2, of(1, 4), of(1, 4), of(1, 4)},
		{700, 1, -2, of(700, 1), of(700, 1), of(700, 1)},
		{1, 3, 0, zero, zero, of(1, 1)},
		{-1, 3, 0, zero, zero, of(-1, 1)},
		{1, 1, -60, zero, zero, whole(tenTo(60))},
		{0, 1, -60, zero, zero, zero},
		{0, 1, 60, zero, zero, zero},
	} {
		r := of(c.num, c.den)
		for call, got := range map[string][2]api.Rat{"Half": {after(round.Half(r, c.places)), c.half}, "Down": {after(round.Down(r, c.places)), c.down}, "Up": {after(round.Up(r, c.places)), c.up}} {
			if got[0] != got[1] {
				t.Errorf("%s of %d/%d and %d: %#v, want %#v", call, c.num, c.den, c.places, got[0], got[1])
			}
		}
	}
}

// after is the number that is answered with no error; else the zero Rat, that none is.
func after(r api.Rat, e api.Errno) api.Rat {
	if e != api.OK {
		return api.Rat{}
	}
	return r
}

func whole(n *big.Int) api.Rat {
	r, _ := told(new(big.Rat).SetInt(n))
	return r
}

// P6.2: all samples with all kinds of places, also those whose numbers have too many bits.
func TestPlacesOfSamples(t *testing.T) {
	half, tooMany := big.NewRat(1, 2), 0
	for _, r := range samples() {
		x := number(r)
		for _, places := range []int{-60, -59, -33, -3, -1, 0, 1, 2, 17, 40, 59, 60} {
			scale := new(big.Rat).SetInt(tenTo(max(places, -places)))
			if places < 0 {
				scale.Inv(scale)
			}
			steps := new(big.Rat).Mul(x, scale)
			amount := new(big.Rat).Abs(steps)
			for call, c := range map[string]struct {
				f    func(api.Rat, int) (api.Rat, api.Errno)
				want *big.Rat
			}{"Half": {round.Half, floor(new(big.Rat).Add(amount, half))}, "Down": {round.Down, floor(amount)}, "Up": {round.Up, ceil(amount)}} {
				got, e := c.f(r, places)
				c.want.Quo(c.want, scale)
				if x.Sign() < 0 {
					c.want.Neg(c.want)
				}
				check(t, got, e, c.want, call, r, places)
				if e == api.ErrNum {
					tooMany++
				}
			}
		}
	}
	if tooMany == 0 {
		t.Error("none has too many bits: the samples are too small")
	}
}

// P6.2: places that are out of range, also of what would have too many bits.
func TestNoSuchPlaces(t *testing.T) {
	most := whole(ones(256))
	for _, r := range append(wrongs(), of(5, 2), of(-1, 3), most) {
		for _, places := range []int{-61, 61, -1000, 1000, math.MinInt, math.MaxInt} {
			for call, f := range map[string]func(api.Rat, int) (api.Rat, api.Errno){"Half": round.Half, "Down": round.Down, "Up": round.Up} {
				if got, e := f(r, places); got != (api.Rat{}) || e != api.ErrArg {
					t.Errorf("%s of %#v and %d: %#v %d", call, r, places, got, e)
				}
			}
		}
	}
	for _, places := range []int{-1, -60} {
		if got, e := round.Up(most, places); got != (api.Rat{}) || e != api.ErrNum {
			t.Errorf("Up of the greatest number and %d: %#v %d", places, got, e)
		}
	}
}

// P6.3: Pow.
func TestPow(t *testing.T) {
	for _, r := range append(samples(), of(2, 1), of(-2, 1), of(1, 2), of(-1, 2), of(2, 3), of(-3, 2), of(-1, 1)) {
		x := number(r)
		for _, n := range []int64{0, 1, 2, 3, 5, 6, 31, 63, 64, 161, 162, 254, 255, 256, 257, 300} {
			amount := big.NewInt(n)
			want := new(big.Rat).SetFrac(new(big.Int).Exp(x.Num(), amount, nil), new(big.Int).Exp(x.Denom(), amount, nil))
			got, e := round.Pow(r, n)
			check(t, got, e, want, "Pow", r, n)
			got, e = round.Pow(r, -n)
			if n > 0 && x.Sign() == 0 {
				if got != (api.Rat{}) || e != api.ErrZero {
					t.Errorf("Pow of 0 and %d: %#v %d", -n, got, e)
				}
				continue
			}
			check(t, got, e, want.Inv(want), "Pow", r, -n)
		}
	}
}

// P6.3: Pow with the greatest and the least n.
func TestPowOfGreatN(t *testing.T) {
	one, two := of(1, 1), of(2, 1)
	for _, c := range []struct {
		r    api.Rat
		n    int64
		want api.Rat
		e    api.Errno
	}{
		{zero, 0, one, api.OK}, {zero, math.MaxInt64, zero, api.OK}, {zero, -1, api.Rat{}, api.ErrZero}, {zero, math.MinInt64, api.Rat{}, api.ErrZero},
		{one, math.MaxInt64, one, api.OK}, {one, math.MinInt64, one, api.OK},
		{of(-1, 1), math.MaxInt64, of(-1, 1), api.OK}, {of(-1, 1), math.MinInt64, one, api.OK}, {of(-1, 1), math.MinInt64 + 1, of(-1, 1), api.OK}, {of(-1, 1), math.MaxInt64 - 1, one, api.OK},
		{two, math.MaxInt64, api.Rat{}, api.ErrNum}, {two, math.MinInt64, api.Rat{}, api.ErrNum}, {of(-1, 2), math.MaxInt64, api.Rat{}, api.ErrNum}, {of(-1, 2), math.MinInt64, api.Rat{}, api.ErrNum},
		{two, 256, api.Rat{}, api.ErrNum}, {two, 1 << 32, api.Rat{}, api.ErrNum}, {two, 1<<32 + 1, api.Rat{}, api.ErrNum}, {two, -1 << 32, api.Rat{}, api.ErrNum},
		{whole(ones(256)), 2, api.Rat{}, api.ErrNum}, {whole(ones(256)), 1 << 40, api.Rat{}, api.ErrNum},
		{of(-2, 3), 3, of(-8, 27), api.OK}, {of(-2, 3), -3, of(-27, 8), api.OK}, {of(-2, 3), -2, of(9, 4), api.OK}, {of(-2, 3), 0, one, api.OK},
	} {
		if got, e := round.Pow(c.r, c.n); got != c.want || e != c.e {
			t.Errorf("Pow of %#v and %d: %#v %d", c.r, c.n, got, e)
		}
	}
}

// P6.3: Mod. P6.4: it is 0, or has b's sign, and a lesser amount.
func TestMod(t *testing.T) {
	for _, c := range []struct{ a, b, want api.Rat }{
		{of(-7, 1), of(2, 1), of(1, 1)}, {of(7, 1), of(-2, 1), of(-1, 1)}, {of(7, 1), of(2, 1), of(1, 1)}, {of(-7, 1), of(-2, 1), of(-1, 1)},
		{of(6, 1), of(-2, 1), zero}, {of(-6, 1), of(2, 1), zero}, {zero, of(-2, 1), zero},
		{of(7, 2), of(2, 3), of(1, 6)}, {of(-7, 2), of(2, 3), of(1, 2)}, {of(1, 3), of(-1, 1), of(-2, 3)}, {of(1, 3), of(1, 2), of(1, 3)},
	} {
		if got, e := round.Mod(c.a, c.b); got != c.want || e != api.OK {
			t.Errorf("Mod of %s and %s: %#v %d", number(c.a), number(c.b), got, e)
		}
	}
	for i, a := range samples() {
		for j, b := range samples() {
			if (i+j)%3 != 0 && rat.Sign(b) != 0 {
				continue // a third of these long divisions is enough
			}
			got, e := round.Mod(a, b)
			x, y := number(a), number(b)
			if y.Sign() == 0 {
				if got != (api.Rat{}) || e != api.ErrZero {
					t.Errorf("Mod of %s and 0: %#v %d", x, got, e)
				}
				continue
			}
			often := floor(new(big.Rat).Quo(x, y))
			check(t, got, e, new(big.Rat).Sub(x, often.Mul(often, y)), "Mod", a, b)
			if e == api.OK && (rat.Sign(got) != 0 && rat.Sign(got) != rat.Sign(b) || rat.Cmp(rat.Abs(got), rat.Abs(b)) >= 0) {
				t.Errorf("Mod of %s and %s has another sign, or too great an amount: %#v", x, y, got)
			}
		}
	}
}

// P6.3: Mod where Floor of a by b has more bits than a number may have; and where what is left has too many.
func TestModOfGreatFloor(t *testing.T) {
	most := whole(ones(256))
	least, _ := rat.Div(of(1, 1), most)
	if got, e := round.Mod(most, of(2, 3)); got != of(1, 3) || e != api.OK {
		t.Errorf("Mod of the greatest number and 2/3: %#v %d", got, e)
	}
	if got, e := round.Mod(most, least); got != zero || e != api.OK {
		t.Errorf("Mod of the greatest number and the least: %#v %d", got, e)
	}
	small, _ := told(new(big.Rat).SetFrac(big.NewInt(2), ones(256)))
	if got, e := round.Mod(of(-1, 2), small); got != (api.Rat{}) || e != api.ErrNum {
		t.Errorf("Mod with too many bits: %#v %d", got, e)
	}
}

// P6.3: Root. P6.5: of a square it is its side's amount.
func TestRoot(t *testing.T) {
	for _, c := range []struct {
		r, want api.Rat
		ok      bool
	}{
		{zero, zero, true}, {of(1, 1), of(1, 1), true}, {of(4, 1), of(2, 1), true}, {of(4, 9), of(2, 3), true}, {of(1, 4), of(1, 2), true}, {of(25, 16), of(5, 4), true},
		{of(2, 1), api.Rat{}, false}, {of(1, 2), api.Rat{}, false}, {of(4, 3), api.Rat{}, false}, {of(3, 4), api.Rat{}, false}, {of(-4, 1), api.Rat{}, false}, {of(-1, 4), api.Rat{}, false}, {of(-1, 1), api.Rat{}, false},
	} {
		if got, ok := round.Root(c.r); got != c.want || ok != c.ok {
			t.Errorf("Root of %s: %#v %v", number(c.r), got, ok)
		}
	}
	for _, side := range append(samples(), whole(ones(128)), whole(new(big.Int).Neg(ones(128)))) {
		square, e := rat.Mul(side, side)
		if e != api.OK {
			continue
		}
		if got, ok := round.Root(square); got != rat.Abs(side) || !ok {
			t.Errorf("Root of the square of %s: %#v %v", number(side), got, ok)
		}
		for _, step := range []api.Rat{of(1, 1), of(-1, 1)} {
			next, e := rat.Add(square, step)
			if got, ok := round.Root(next); e == api.OK && rat.Sign(square) != 0 && square != of(1, 1) && round.Whole(square) && (got != (api.Rat{}) || ok) {
				t.Errorf("Root next to the square of %s: %#v %v", number(side), got, ok)
			}
		}
	}
}

// P6.5: Half, Down and Up leave what has no more than so many places.
func TestPlacesThatAreThere(t *testing.T) {
	for _, r := range samples() {
		for _, places := range []int{0, 1, 17, 60} {
			down, e := round.Down(r, places)
			if e != api.OK {
				continue
			}
			for _, more := range []int{places, places + 1, 60} {
				if more > 60 {
					continue
				}
				for call, f := range map[string]func(api.Rat, int) (api.Rat, api.Errno){"Half": round.Half, "Down": round.Down, "Up": round.Up} {
					if got, e := f(down, more); got != down || e != api.OK {
						t.Errorf("%s of %s and %d: %#v %d", call, number(down), more, got, e)
					}
				}
			}
		}
	}
}

// P6.1 to P6.3: what is not right counts as 0.
func TestWhatIsNotRight(t *testing.T) {
	for _, r := range wrongs() {
		n, ok := round.Small(r)
		root, rooted := round.Root(r)
		if !round.Whole(r) || n != 0 || !ok || round.Trunc(r) != zero || root != zero || !rooted {
			t.Errorf("%#v does not count as 0", r)
		}
		for call, got := range map[string]api.Rat{
			"Floor": after(round.Floor(r)), "Ceil": after(round.Ceil(r)), "Half": after(round.Half(r, -1)), "Down": after(round.Down(r, 0)), "Up": after(round.Up(r, 1)), "Pow": after(round.Pow(r, 3)), "Mod": after(round.Mod(r, of(-2, 3))),
		} {
			if got != zero {
				t.Errorf("%s of %#v: %#v", call, r, got)
			}
		}
		if got, e := round.Pow(r, 0); got != of(1, 1) || e != api.OK {
			t.Errorf("Pow of %#v and 0: %#v %d", r, got, e)
		}
		if got, e := round.Pow(r, -1); got != (api.Rat{}) || e != api.ErrZero {
			t.Errorf("Pow of %#v and -1: %#v %d", r, got, e)
		}
		if got, e := round.Mod(of(1, 2), r); got != (api.Rat{}) || e != api.ErrZero {
			t.Errorf("Mod of 1/2 and %#v: %#v %d", r, got, e)
		}
	}
}
