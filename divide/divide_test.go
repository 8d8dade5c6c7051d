package divide_test

import (
	"math"
	"math/big"
	"strings"
	"testing"

	"abacist/api"
	"abacist/divide"
	"abacist/nat"
)

// samples are texts at the edges of bytes and limbs, some with bytes 0 ahead.
func samples() []string {
	l := []string{"", "\x00\x00", "\x01", "\x00\x02", "\x03", "\xff", "\x01\x00", "\x00\x00\x00\x00\x00\x00\x09", "bytes of any kind \xff\xfe"}
	for _, n := range []int{3, 4, 5, 8, 9, 12, 13, 16, 24, 31} {
		ones, zeros := strings.Repeat("\xff", n), strings.Repeat("\x00", n-1)
		l = append(l, ones, "\x01"+zeros, "\x80"+zeros, "\x00\x80"+zeros+ones, "\x7f"+ones+"\x80"+zeros, ones+zeros+"\x01")
	}
	state := uint32(7)
	for n := range 45 {
		t := make([]byte, n)
		for i := range t {
			state = state*1664525 + 1013904223
			t[i] = byte(state >> 24)
		}
		l = append(l, string(t))
	}
	return l
}

func number(a string) *big.Int { return new(big.Int).SetBytes([]byte(a)) }

func same(got string, want *big.Int) bool { return got == string(want.Bytes()) }

// bytesOf is the text of a number in hexadecimal digits.
func bytesOf(s string) string {
	n, _ := new(big.Int).SetString(s, 16)
	return string(n.Bytes())
}

// P2.1: DivMod.
func TestDivMod(t *testing.T) {
	for _, a := range samples() {
		for _, b := range samples() {
			q, r, e := divide.DivMod(a, b)
			if nat.Bits(b) == 0 {
				if q != "" || r != "" || e != api.ErrZero {
					t.Errorf("DivMod of %x and 0: %x %x %d", a, q, r, e)
				}
				continue
			}
			often, left := new(big.Int).QuoRem(number(a), number(b), new(big.Int))
			if !same(q, often) || !same(r, left) || e != api.OK {
				t.Errorf("DivMod of %x and %x: %x %x %d", a, b, q, r, e)
			}
		}
	}
	if q, r, e := divide.DivMod(nat.Of(1000), nat.Of(7)); q != nat.Of(142) || r != nat.Of(6) || e != api.OK {
		t.Errorf("DivMod of 1000 and 7: %x %x %d", q, r, e)
	}
}

// P2.1: quotients whose digits are easily guessed too great.
func TestDivModGuess(t *testing.T) {
	for _, c := range []struct{ name, a, b, q, r string }{
		{"a guess too great by one", "fffffffffffffffe00000000", "ffffffffffffffff", "ffffffff", "fffffffeffffffff"},
		{"by two", "7fffffff000000000000000000000000", "80000000ffffffff", "fffffffc00000009", "7ffffff300000009"},
		{"by one and by two", "800000000000000000000000", "80000000ffffffff", "fffffffe", "2fffffffe"},
		{"shown only when it is taken", "7fffffff800000000000000000000000", "800000000000000000000001", "fffffffe", "7fffffffffffffff00000002"},
		{"shown so with a shifted divisor", "800000000000000000000003", "200000000000000000000001", "3", "200000000000000000000000"},
	} {
		q, r, e := divide.DivMod(bytesOf(c.a), bytesOf(c.b))
		if q != bytesOf(c.q) || r != bytesOf(c.r) || e != api.OK {
			t.Errorf("%s: %x %x %d", c.name, q, r, e)
		}
	}
}

// P2.3.
func TestDivModBack(t *testing.T) {
	for _, a := range samples() {
		for _, b := range samples() {
			q, r, e := divide.DivMod(a, b)
			if e == api.OK && (nat.Add(nat.Mul(q, b), r) != nat.Trim(a) || nat.Cmp(r, b) >= 0) {
				t.Errorf("DivMod of %x and %x: %x %x", a, b, q, r)
			}
		}
	}
}

// P2.1: Gcd. P2.4: what it divides.
func TestGcd(t *testing.T) {
	for _, c := range []struct{ a, b, want uint64 }{{12, 18, 6}, {18, 12, 6}, {0, 5, 5}, {5, 0, 5}, {0, 0, 0}, {1, 9, 1}, {17, 5, 1}, {7, 7, 7}, {1 << 40, 1 << 20, 1 << 20}} {
		if got := divide.Gcd("\x00"+nat.Of(c.a), nat.Of(c.b)); got != nat.Of(c.want) {
			t.Errorf("Gcd of %d and %d: %x", c.a, c.b, got)
		}
	}
	for _, a := range samples() {
		for _, b := range samples() {
			g := divide.Gcd(a, b)
			if !same(g, new(big.Int).GCD(nil, nil, number(a), number(b))) {
				t.Errorf("Gcd of %x and %x: %x", a, b, g)
			}
			if g == "" {
				continue
			}
			x, left, _ := divide.DivMod(a, g)
			y, more, _ := divide.DivMod(b, g)
			if left != "" || more != "" || divide.Gcd(x, y) != nat.Of(1) {
				t.Errorf("Gcd of %x and %x: %x does not divide both, or not all", a, b, g)
			}
		}
	}
}

// P2.2: Pow.
func TestPow(t *testing.T) {
	for _, a := range samples() {
		for n := range 70 {
			want := new(big.Int).Exp(number(a), big.NewInt(int64(n)), nil)
			e := api.OK
			if len(want.Bytes()) > divide.Most {
				want, e = new(big.Int), api.ErrLong
			}
			if got, ge := divide.Pow(a, n); !same(got, want) || ge != e {
				t.Errorf("Pow of %x and %d: %x %d", a, n, got, ge)
			}
		}
	}
}

// P2.2: Pow at its limit, and at wrong and at greatest arguments.
func TestPowEdges(t *testing.T) {
	whole := strings.Repeat("\xff", divide.Most)
	side := "\x00\x01" + strings.Repeat("\x00", 511) // 2^4088
	for i, c := range []struct {
		a    string
		n    int
		size int
		e    api.Errno
	}{
		{"\x02", 8191, 1024, api.OK}, {"\x02", 8192, 0, api.ErrLong}, {"\x02", math.MaxInt, 0, api.ErrLong}, {"\x03", 5168, 1024, api.OK}, {"\x03", 5169, 0, api.ErrLong},
		{side, 2, 1023, api.OK}, {side, 3, 0, api.ErrLong}, {whole, 1, 1024, api.OK}, {whole, 2, 0, api.ErrLong}, {"\x00" + whole, 1, 1024, api.OK}, {"\x01" + whole, 1, 0, api.ErrLong}, {"\x01" + whole, 0, 1, api.OK},
		{strings.Repeat("\xff", 512), 2, 1024, api.OK}, {"\x01" + strings.Repeat("\x00", 512), 2, 0, api.ErrLong},
		{"", 0, 1, api.OK}, {"\x00", math.MaxInt, 0, api.OK}, {"\x00\x01", math.MaxInt, 1, api.OK},
		{"\x02", -1, 0, api.ErrArg}, {"", -1, 0, api.ErrArg}, {"\x01" + whole, math.MinInt, 0, api.ErrArg},
	} {
		if got, e := divide.Pow(c.a, c.n); len(got) != c.size || e != c.e || got != nat.Trim(got) {
			t.Errorf("Pow %d: %d bytes, %d", i, len(got), e)
		}
	}
}

// P2.2: Shl and Shr.
func TestShifts(t *testing.T) {
	for _, a := range samples() {
		for n := range 100 {
			if got, e := divide.Shl(a, n); !same(got, new(big.Int).Lsh(number(a), uint(n))) || e != api.OK {
				t.Errorf("Shl of %x by %d: %x %d", a, n, got, e)
			}
			if got := divide.Shr(a, n); !same(got, new(big.Int).Rsh(number(a), uint(n))) {
				t.Errorf("Shr of %x by %d: %x", a, n, got)
			}
		}
		for _, n := range []int{-1, -8, math.MinInt} {
			if got, e := divide.Shl(a, n); got != "" || e != api.ErrArg {
				t.Errorf("Shl of %x by %d: %x %d", a, n, got, e)
			}
			if got := divide.Shr(a, n); got != nat.Trim(a) {
				t.Errorf("Shr of %x by %d: %x", a, n, got)
			}
		}
		if got := divide.Shr(a, math.MaxInt); got != "" {
			t.Errorf("Shr of %x by the greatest: %x", a, got)
		}
	}
}

// P2.2: Shl at its limit.
func TestShlEdges(t *testing.T) {
	whole := strings.Repeat("\xff", divide.Most)
	for i, c := range []struct {
		a    string
		n    int
		size int
		e    api.Errno
	}{
		{"\x01", 8191, 1024, api.OK}, {"\x01", 8192, 0, api.ErrLong}, {"\x00\x03", 8190, 1024, api.OK}, {"\x03", 8191, 0, api.ErrLong}, {"\x01", math.MaxInt, 0, api.ErrLong},
		{whole, 0, 1024, api.OK}, {"\x00" + whole, 0, 1024, api.OK}, {whole, 1, 0, api.ErrLong}, {"\x01" + whole, 0, 0, api.ErrLong},
		{"", 9000, 0, api.OK}, {"\x00\x00", math.MaxInt, 0, api.OK}, {"", -1, 0, api.ErrArg}, {"\x01" + whole, -1, 0, api.ErrArg},
	} {
		if got, e := divide.Shl(c.a, c.n); len(got) != c.size || e != c.e {
			t.Errorf("Shl %d: %d bytes, %d", i, len(got), e)
		}
	}
}

// P2.2: Root.
func TestRoot(t *testing.T) {
	for a := range uint64(2000) {
		if got, want := divide.Root("\x00"+nat.Of(a)), new(big.Int).Sqrt(new(big.Int).SetUint64(a)); !same(got, want) {
			t.Errorf("Root of %d: %x", a, got)
		}
	}
	long := strings.Repeat("\xfe\x01", 1500)
	for _, a := range append(samples(), long, "\x01"+long) {
		if got := divide.Root(a); !same(got, new(big.Int).Sqrt(number(a))) {
			t.Errorf("Root of %x: %x", a, got)
		}
	}
}

// P2.5.
func TestRootOfSquares(t *testing.T) {
	one := nat.Of(1)
	for _, a := range samples() {
		square := nat.Mul(a, a)
		next := nat.Mul(nat.Add(a, one), nat.Add(a, one))
		for _, b := range []string{square, nat.Add(square, a), nat.Sub(next, one)} {
			if got := divide.Root(b); got != nat.Trim(a) {
				t.Errorf("Root of %x: %x, want %x", b, got, a)
			}
		}
		if got := divide.Root(next); got != nat.Add(a, one) {
			t.Errorf("Root of %x: %x", next, got)
		}
	}
}
