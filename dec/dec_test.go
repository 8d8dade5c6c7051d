package dec_test

import (
	"math/big"
	"strings"
	"testing"

	"abacist/api"
	"abacist/dec"
	"abacist/nat"
)

// samples are texts at the edges of bytes and of nine digits, some with bytes 0 ahead.
func samples() []string {
	l := []string{"", "\x00", "\x00\x00\x00\x00\x00", "\x00\x07", "\xff", "\x01\x00", "a text of any bytes \xff\xfe", strings.Repeat("\xff", 1025)}
	ten, one := big.NewInt(10), big.NewInt(1)
	for n := range 60 {
		power := new(big.Int).Exp(ten, big.NewInt(int64(n)), nil)
		l = append(l, string(power.Bytes()), "\x00"+string(new(big.Int).Sub(power, one).Bytes()), string(new(big.Int).Add(power, one).Bytes()))
	}
	state := uint32(3)
	for n := range 60 {
		t := make([]byte, n)
		for i := range t {
			state = state*1664525 + 1013904223
			t[i] = byte(state >> 24)
		}
		l = append(l, string(t))
	}
	return l
}

func number(a string) *big.Int { return new(big.Int).SetBytes([]byte(a)) }

// times is how often d divides a, that is not 0.
func times(a *big.Int, d int64) int {
	often, left := new(big.Int), new(big.Int)
	for n := 0; ; n++ {
		often.QuoRem(a, big.NewInt(d), left)
		if left.Sign() != 0 {
			return n
		}
		a = new(big.Int).Set(often)
	}
}

// billion is the text of 10^9 and n together.
func billion(n int64) string { return nat.Of(uint64(1_000_000_000 + n)) }

// P3.1: Text and Digits.
func TestText(t *testing.T) {
	for a, want := range map[string]string{"": "0", "\x00\x00": "0", "\x07": "7", "\x00\x0a": "10", "\x01\x02": "258", billion(0): "1000000000", billion(5): "1000000005", billion(-1): "999999999"} {
		if got := dec.Text(a); got != want {
			t.Errorf("Text of %x: %s, want %s", a, got, want)
		}
	}
	for _, a := range samples() {
		want := number(a).String()
		if got := dec.Text(a); got != want {
			t.Errorf("Text of %x: %s, want %s", a, got, want)
		}
		if got := dec.Digits(a); got != len(want) {
			t.Errorf("Digits of %x: %d, want %d", a, got, len(want))
		}
	}
}

// P3.1: Parse of digits.
func TestParse(t *testing.T) {
	for s, want := range map[string]uint64{"0": 0, "000": 0, "007": 7, "7": 7, "10": 10, "258": 258, "999999999": 999999999, "1000000000": 1000000000, "0123456789012345678": 123456789012345678, "18446744073709551615": 18446744073709551615, strings.Repeat("0", 399) + "5": 5} {
		if got, e := dec.Parse(s); got != nat.Of(want) || e != api.OK {
			t.Errorf("Parse of %s: %x %d", s, got, e)
		}
	}
	long := strings.Repeat("9876543210", 40)
	for n := 1; n <= len(long); n++ {
		want, _ := new(big.Int).SetString(long[:n], 10)
		if got, e := dec.Parse(long[:n]); got != string(want.Bytes()) || e != api.OK {
			t.Errorf("Parse of %d digits: %x %d", n, got, e)
		}
	}
}

// P3.1: Parse of what is none, or too long.
func TestParseRefuses(t *testing.T) {
	nines, zeros := strings.Repeat("9", dec.Most), strings.Repeat("0", dec.Most)
	for s, want := range map[string]api.Errno{
		"": api.ErrForm, "-": api.ErrForm, "-1": api.ErrForm, "+1": api.ErrForm, " 1": api.ErrForm, "1 ": api.ErrForm, "1\n": api.ErrForm, "1_000": api.ErrForm, "1.5": api.ErrForm, "1e5": api.ErrForm, "0x1": api.ErrForm, "1a1": api.ErrForm, "a": api.ErrForm, "/": api.ErrForm, ":": api.ErrForm, "\x00": api.ErrForm, "1\x001": api.ErrForm, "\xff": api.ErrForm, "1\xff2": api.ErrForm, "١": api.ErrForm, "123456789x": api.ErrForm, "x123456789": api.ErrForm,
		nines + "9": api.ErrLong, zeros + "0": api.ErrLong, zeros + "7": api.ErrLong, nines + nines: api.ErrLong,
		nines + "x": api.ErrForm, "x" + nines: api.ErrForm, nines + "-" + nines: api.ErrForm,
	} {
		if got, e := dec.Parse(s); got != "" || e != want {
			t.Errorf("Parse of %q: %x %d, want %d", s, got, e, want)
		}
	}
	for _, s := range []string{nines, zeros} {
		if _, e := dec.Parse(s); e != api.OK {
			t.Errorf("Parse of %d digits: %d", len(s), e)
		}
	}
}

// P3.1: Twos.
func TestTwos(t *testing.T) {
	for a, want := range map[uint64][2]int{0: {0, 0}, 1: {0, 0}, 2: {1, 0}, 5: {0, 1}, 7: {0, 0}, 10: {1, 1}, 12: {2, 0}, 25: {0, 2}, 125: {0, 3}, 256: {8, 0}, 625: {0, 4}, 1000: {3, 3}, 1 << 63: {63, 0}, 7450580596923828125: {0, 27}} {
		if twos, fives := dec.Twos("\x00" + nat.Of(a)); twos != want[0] || fives != want[1] {
			t.Errorf("Twos of %d: %d %d", a, twos, fives)
		}
	}
	for _, a := range samples() {
		wantTwos, wantFives := 0, 0
		if n := number(a); n.Sign() > 0 {
			wantTwos, wantFives = times(n, 2), times(n, 5)
		}
		if twos, fives := dec.Twos(a); twos != wantTwos || fives != wantFives {
			t.Errorf("Twos of %x: %d %d, want %d %d", a, twos, fives, wantTwos, wantFives)
		}
	}
}

// P3.1: Twos of products of 2, of 5 and of others.
func TestTwosOfProducts(t *testing.T) {
	for n := range 41 {
		for _, other := range []int64{1, 3, 49, 1_000_003} {
			a := new(big.Int).Exp(big.NewInt(5), big.NewInt(int64(n)), nil)
			a.Lsh(a.Mul(a, big.NewInt(other)), uint(2*n))
			if twos, fives := dec.Twos(string(a.Bytes())); twos != 2*n || fives != n {
				t.Errorf("Twos of 2^%d, 5^%d and %d: %d %d", 2*n, n, other, twos, fives)
			}
		}
	}
	if twos, fives := dec.Twos("\x03" + strings.Repeat("\x00", 5000)); twos != 40000 || fives != 0 {
		t.Errorf("Twos of a long one: %d %d", twos, fives)
	}
}

// P3.2.
func TestThereAndBack(t *testing.T) {
	for _, a := range samples() {
		want, wantErr := nat.Trim(a), api.OK
		if dec.Digits(a) > dec.Most {
			want, wantErr = "", api.ErrLong
		}
		if got, e := dec.Parse(dec.Text(a)); got != want || e != wantErr {
			t.Errorf("Parse of Text of %x: %x %d", a, got, e)
		}
	}
	for _, s := range []string{"1", "9", "10", "123456789", "1234567890", "900000000000000000009", strings.Repeat("8", dec.Most)} {
		for _, ahead := range []string{"", "0", "0000000000"} {
			if len(ahead+s) > dec.Most {
				continue
			}
			if a, e := dec.Parse(ahead + s); dec.Text(a) != s || e != api.OK {
				t.Errorf("Text of what is parsed of %s: %s %d", ahead+s, dec.Text(a), e)
			}
		}
	}
}
