package nat_test

import (
	"math"
	"math/big"
	"strings"
	"testing"

	"abacist/nat"
)

// samples are texts at the edges of bytes and words, some with bytes 0 ahead.
func samples() []string {
	l := []string{"", "\x00", "\x00\x00\x00\x00\x00", "\x01", "\x00\x01", "\xff", "\x01\x00", "\x01\x02", "a text of any bytes \xff\xfe", "\x00\x00\x00\x00\x00\x00\x00\x00\x00\x07"}
	for _, n := range []int{2, 3, 4, 5, 7, 8, 9, 12, 16, 31, 33} {
		zeros := strings.Repeat("\x00", n-1)
		l = append(l, strings.Repeat("\xff", n), "\x01"+zeros, "\x80"+zeros, zeros+"\x80"+zeros+"\x01", strings.Repeat("\xff\x00", n))
	}
	state := uint32(1)
	for n := range 40 {
		t := make([]byte, n)
		for i := range t {
			state = state*1664525 + 1013904223
			t[i] = byte(state >> 24)
		}
		l = append(l, string(t))
	}
	return l
}

func number(a string) *big.Int { return new(big.Int).SetBytes([]byte(a)) }

func check(t *testing.T, got string, want *big.Int, call string, args ...string) {
	t.Helper()
	if got != string(want.Bytes()) {
		t.Errorf("%s of %x: %x, want %x", call, args, got, want.Bytes())
	}
}

// P1.1: Trim.
func TestTrim(t *testing.T) {
	for a, want := range map[string]string{"": "", "\x00": "", "\x00\x00\x00": "", "\x00a\x00": "a\x00", "a": "a", "\x00\xff\x00\xfe": "\xff\x00\xfe"} {
		if got := nat.Trim(a); got != want {
			t.Errorf("Trim of %x: %x, want %x", a, got, want)
		}
	}
	for _, a := range samples() {
		check(t, nat.Trim(a), number(a), "Trim", a)
	}
}

// P1.1: Of and Small.
func TestSmallNumbers(t *testing.T) {
	for n, want := range map[uint64]string{0: "", 1: "\x01", 255: "\xff", 256: "\x01\x00", 258: "\x01\x02", 1<<32 - 1: "\xff\xff\xff\xff", 1 << 32: "\x01\x00\x00\x00\x00", 1 << 56: "\x01\x00\x00\x00\x00\x00\x00\x00", 0x0102030405060708: "\x01\x02\x03\x04\x05\x06\x07\x08", math.MaxUint64: "\xff\xff\xff\xff\xff\xff\xff\xff"} {
		if got := nat.Of(n); got != want {
			t.Errorf("Of %d: %x, want %x", n, got, want)
		}
		for _, ahead := range []string{"", "\x00", "\x00\x00\x00\x00\x00\x00\x00\x00\x00"} {
			if got, ok := nat.Small(ahead + want); got != n || !ok {
				t.Errorf("Small of %x: %d %v", ahead+want, got, ok)
			}
		}
	}
	for _, a := range samples() {
		want := number(a)
		n, ok := nat.Small(a)
		if ok != want.IsUint64() || ok && n != want.Uint64() || !ok && n != 0 {
			t.Errorf("Small of %x: %d %v", a, n, ok)
		}
	}
}

// P1.1: Cmp and Bits.
func TestCmpAndBits(t *testing.T) {
	for _, a := range samples() {
		if got, want := nat.Bits(a), number(a).BitLen(); got != want {
			t.Errorf("Bits of %x: %d, want %d", a, got, want)
		}
		for _, b := range samples() {
			if got, want := nat.Cmp(a, b), number(a).Cmp(number(b)); got != want {
				t.Errorf("Cmp of %x, %x: %d, want %d", a, b, got, want)
			}
		}
	}
	for a, want := range map[string]int{"": 0, "\x00\x00": 0, "\x01": 1, "\x7f": 7, "\x80": 8, "\x00\x01\x00": 9} {
		if got := nat.Bits(a); got != want {
			t.Errorf("Bits of %x: %d, want %d", a, got, want)
		}
	}
	if nat.Cmp("\x00\x05", "\x03") != 1 || nat.Cmp("\x03", "\x00\x05") != -1 || nat.Cmp("\x00", "") != 0 || nat.Cmp("\x02", "\x01\x00") != -1 {
		t.Error("Cmp minds bytes 0 ahead, or the number of bytes not enough")
	}
}

// P1.2: Add, Sub and Mul, also of texts with bytes 0 ahead.
func TestReckoning(t *testing.T) {
	for _, a := range samples() {
		for _, b := range samples() {
			x, y := number(a), number(b)
			check(t, nat.Add(a, b), new(big.Int).Add(x, y), "Add", a, b)
			check(t, nat.Mul(a, b), new(big.Int).Mul(x, y), "Mul", a, b)
			left := new(big.Int).Sub(x, y)
			if left.Sign() < 0 {
				left.SetInt64(0)
			}
			check(t, nat.Sub(a, b), left, "Sub", a, b)
		}
	}
	if got := nat.Mul(nat.Of(258), nat.Of(258)); got != nat.Of(66564) {
		t.Errorf("258 times itself: %x", got)
	}
	if nat.Sub("\x03", "\x05") != "" || nat.Sub("\x05", "\x05") != "" || nat.Sub("\x01\x00\x00", "\x01") != "\xff\xff" {
		t.Error("Sub of a greater number, of the same one, or with borrowing")
	}
}

// P1.2: a product of a great many words with each carry at its greatest.
func TestLongMul(t *testing.T) {
	a := strings.Repeat("\xff", 1003)
	check(t, nat.Mul(a, a), new(big.Int).Mul(number(a), number(a)), "Mul")
	check(t, nat.Mul(a, "\xff"), new(big.Int).Mul(number(a), number("\xff")), "Mul")
}

// P1.3.
func TestSubTakesAddBack(t *testing.T) {
	for _, a := range samples() {
		for _, b := range samples() {
			if got := nat.Sub(nat.Add(a, b), b); got != nat.Trim(a) {
				t.Errorf("Sub of Add of %x and %x: %x", a, b, got)
			}
		}
	}
}

// P1.4.
func TestAddAndMulTogether(t *testing.T) {
	l := samples()
	for i, a := range l {
		c := l[len(l)-1-i]
		for _, b := range l {
			if nat.Mul(a, nat.Add(b, c)) != nat.Add(nat.Mul(a, b), nat.Mul(a, c)) {
				t.Errorf("Mul of %x and the sum of %x and %x", a, b, c)
			}
			if nat.Add(a, b) != nat.Add(b, a) || nat.Mul(a, b) != nat.Mul(b, a) {
				t.Errorf("the order of %x and %x", a, b)
			}
		}
	}
}
