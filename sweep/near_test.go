package sweep_test

import (
	"math/big"
	"math/rand"
	"strings"
	"testing"

	"abacist/api"
	"abacist/sweep"
)

// ratio is a by b as a number, told with nothing but 1 dividing both.
func ratio(a, b *big.Int) api.Rat {
	r := new(big.Rat).SetFrac(a, b)
	return api.Rat{Neg: r.Sign() < 0, Num: string(r.Num().Bytes()), Den: string(r.Denom().Bytes())}
}

// rational is the number of a text, as 1/3, -2 or 1e-9.
func rational(t *testing.T, s string) api.Rat {
	t.Helper()
	r, ok := new(big.Rat).SetString(s)
	if !ok {
		t.Fatalf("no number: %s", s)
	}
	return ratio(r.Num(), r.Denom())
}

func number(r api.Rat) api.Value   { return api.Value{Kind: api.Number, Num: r} }
func written(s string) api.Value   { return api.Value{Kind: api.Text, Text: s} }
func truth(b bool) api.Value       { return api.Value{Kind: api.Truth, Truth: b} }
func fault(n int) api.Value        { return api.Value{Kind: api.Fault, Fault: n} }
func power(base, n int64) *big.Int { return new(big.Int).Exp(big.NewInt(base), big.NewInt(n), nil) }

// near checks Near of two values, either way.
func near(t *testing.T, a, b api.Value, eps api.Rat, want bool) {
	t.Helper()
	if got := sweep.Near(a, b, eps); got != want {
		t.Errorf("Near of %#v and %#v, %#v: %t", a, b, eps, got)
	}
	if got := sweep.Near(b, a, eps); got != want {
		t.Errorf("Near of %#v and %#v, %#v: %t", b, a, eps, got)
	}
}

// P32.1: numbers that differ by just eps, and by a little less or more, on both sides of one, of 0 and far away.
func TestNearNumbers(t *testing.T) {
	tiny := rational(t, "1e-30")
	little, _ := new(big.Rat).SetString("1e-30")
	for _, from := range []string{"0", "1", "-1", "1/3", "-1/8", "7", "123456789012345678901234567890", "-1e20"} {
		for _, eps := range []string{"0", "1/4", "1e-30", "2", "1/3", "1e25"} {
			a, _ := new(big.Rat).SetString(from)
			e, _ := new(big.Rat).SetString(eps)
			for _, c := range []struct {
				by   *big.Rat
				want bool
			}{
				{new(big.Rat), true}, {e, true}, {new(big.Rat).Add(e, little), false},
				{new(big.Rat).Sub(e, little), true},
			} {
				up, down := new(big.Rat).Add(a, c.by), new(big.Rat).Sub(a, c.by)
				// A little less than no difference is one.
				want := c.want && (e.Sign() > 0 || c.by.Sign() >= 0)
				for _, b := range []*big.Rat{up, down} {
					near(t, number(rational(t, from)), number(ratio(b.Num(), b.Denom())), rational(t, eps), want)
				}
			}
		}
	}
	near(t, number(rational(t, "-1/8")), number(rational(t, "1/8")), rational(t, "1/4"), true)
	near(t, number(rational(t, "-1/8")), number(rational(t, "1/8")), rational(t, "1/5"), false)
	near(t, number(tiny), number(rational(t, "-1e-30")), tiny, false)
	least := ratio(big.NewInt(1), power(2, 255))
	near(t, number(rational(t, "0")), number(least), rational(t, "0"), false)
	near(t, number(rational(t, "0")), number(least), least, true)
}

// P32.1: with eps below 0 no number is near to one, also not to itself; other values do not mind eps.
func TestNearBelow(t *testing.T) {
	for _, eps := range []string{"-1", "-1e-30", "-5/3"} {
		for _, a := range []string{"0", "1", "-2", "1/3"} {
			near(t, number(rational(t, a)), number(rational(t, a)), rational(t, eps), false)
			near(t, number(rational(t, a)), number(rational(t, "5")), rational(t, eps), false)
		}
		for _, v := range []api.Value{{}, written(""), written("a"), truth(false), fault(2)} {
			near(t, v, v, rational(t, eps), true)
		}
	}
}

// P32.1: what is not right counts as 0, in both numbers and as eps.
func TestNearNotRight(t *testing.T) {
	zero, one, two := rational(t, "0"), rational(t, "1"), rational(t, "2")
	for _, wrong := range []api.Rat{{}, {Num: "\x02", Den: "\x04"}, {Num: "\x03"}, {Neg: true, Den: "\x01"}, {Num: "\x00\x02", Den: "\x01"}, {Num: strings.Repeat("\xff", 33), Den: "\x01"}, {Num: "\x02", Den: "\x02"}} {
		near(t, number(wrong), number(zero), zero, true)
		near(t, number(wrong), number(wrong), zero, true)
		near(t, number(wrong), number(rational(t, "1/2")), zero, false)
		near(t, number(wrong), number(one), one, true)
		near(t, number(wrong), number(two), one, false)
		near(t, number(one), number(one), wrong, true)
		near(t, number(one), number(rational(t, "1.0001")), wrong, false)
		near(t, number(wrong), number(wrong), wrong, true)
		near(t, number(wrong), written(""), one, false)
	}
}

// P32.1: numbers whose difference has too many bits are not near, how great eps ever is.
func TestNearTooFar(t *testing.T) {
	most := new(big.Int).Sub(power(2, 256), big.NewInt(1))
	one := big.NewInt(1)
	greatest, least := number(ratio(most, one)), number(ratio(new(big.Int).Neg(most), one))
	near(t, greatest, least, greatest.Num, false)
	near(t, greatest, greatest, rational(t, "0"), true)
	near(t, greatest, number(rational(t, "0")), greatest.Num, true)
	near(t, greatest, number(rational(t, "-1")), greatest.Num, false)
	near(t, number(ratio(one, power(2, 255))), number(ratio(one, power(3, 160))), rational(t, "1"), false)
	near(t, number(ratio(one, power(2, 255))), number(ratio(one, power(2, 254))), ratio(one, power(2, 255)), true)
}

// P32.1: other values are near if they are one, how great eps ever is.
func TestNearOthers(t *testing.T) {
	all := []api.Value{{}, number(rational(t, "0")), number(rational(t, "1")), written(""), written("0"), written("1"), written("a"), written("A"), written("TRUE"), written("#N/A"), truth(false), truth(true)}
	for n := 1; n <= 7; n++ {
		all = append(all, fault(n))
	}
	for _, eps := range []string{"0", "1/2", "-1", "1e50"} {
		for i, a := range all {
			for j, b := range all {
				if a.Kind != api.Number || b.Kind != api.Number {
					near(t, a, b, rational(t, eps), i == j)
				}
			}
		}
	}
	for _, v := range []api.Value{{Kind: 9}, {Kind: -1, Text: "a"}, {Kind: api.Fault, Fault: 99}, {Truth: true}, {Kind: api.Text, Text: "\n"}} {
		near(t, v, v, rational(t, "0"), true)
		near(t, v, api.Value{}, rational(t, "1"), false)
		near(t, v, number(rational(t, "0")), rational(t, "1"), false)
	}
}

// P32.1: drawn numbers, with few bits and with many, held against math/big.
func TestNearByChance(t *testing.T) {
	c := rand.New(rand.NewSource(321))
	draw := func() *big.Rat {
		bits := uint(1 + c.Intn(150))
		num := new(big.Int).Rand(c, new(big.Int).Lsh(big.NewInt(1), bits))
		den := new(big.Int).Rand(c, new(big.Int).Lsh(big.NewInt(1), uint(1+c.Intn(150))))
		r := new(big.Rat).SetFrac(num, den.Add(den, big.NewInt(1)))
		if c.Intn(2) == 0 {
			r.Neg(r)
		}
		return r
	}
	counts := map[bool]int{}
	for range 3000 {
		a, b, eps := draw(), draw(), draw()
		eps.Abs(eps)
		apart := new(big.Rat).Sub(a, b)
		apart.Abs(apart)
		want := apart.Cmp(eps) <= 0 && max(apart.Num().BitLen(), apart.Denom().BitLen()) <= api.MaxBits
		counts[want]++
		near(t, number(ratio(a.Num(), a.Denom())), number(ratio(b.Num(), b.Denom())), ratio(eps.Num(), eps.Denom()), want)
	}
	if counts[true] < 300 || counts[false] < 300 {
		t.Errorf("%v", counts)
	}
}
