package numtext_test

import (
	"math/big"
	"strings"
	"testing"

	"abacist/api"
	"abacist/numtext"
	"abacist/rat"
)

// power is base^n.
func power(base, n int64) *big.Int {
	return new(big.Int).Exp(big.NewInt(base), big.NewInt(n), nil)
}

// ones is 2^bits without 1: of 256 the greatest that a numerator or a denominator may be.
func ones(bits int64) *big.Int {
	return new(big.Int).Sub(power(2, bits), big.NewInt(1))
}

// told is a number as api has it; ErrNum, if it has too many bits.
func told(x *big.Rat) (api.Rat, api.Errno) {
	if x.Num().BitLen() > api.MaxBits || x.Denom().BitLen() > api.MaxBits {
		return api.Rat{}, api.ErrNum
	}
	return api.Rat{Neg: x.Sign() < 0, Num: string(x.Num().Bytes()), Den: string(x.Denom().Bytes())}, api.OK
}

// by is num by den, that has not too many bits.
func by(num, den *big.Int) api.Rat {
	r, _ := told(new(big.Rat).SetFrac(num, den))
	return r
}

// of is a small fraction.
func of(num, den int64) api.Rat { return by(big.NewInt(num), big.NewInt(den)) }

func number(r api.Rat) *big.Rat {
	x := new(big.Rat).SetFrac(new(big.Int).SetBytes([]byte(r.Num)), new(big.Int).SetBytes([]byte(r.Den)))
	if r.Neg {
		x.Neg(x)
	}
	return x
}

// samples are numbers that end, also behind just Places places, behind more, and behind as many as may be, and numbers that do not, each also below 0.
func samples() []api.Rat {
	nums := []*big.Int{big.NewInt(0), big.NewInt(1), big.NewInt(7), big.NewInt(10), big.NewInt(1234), big.NewInt(1_000_000_007), power(10, 20), power(10, 40), ones(128), ones(255), ones(256)}
	dens := []*big.Int{ones(64), ones(256), big.NewInt(7), big.NewInt(60), new(big.Int).Mul(power(10, 20), big.NewInt(3))}
	for _, n := range []int64{0, 1, 2, 3, 19, 20, 21, 40, 76, 77} {
		dens = append(dens, power(10, n), power(2, n), power(5, n), new(big.Int).Mul(power(2, n), power(5, n/2)))
	}
	dens = append(dens, power(2, 254), power(2, 255), power(5, 109), power(5, 110))
	var l []api.Rat
	seen := map[api.Rat]bool{}
	for _, num := range nums {
		for _, den := range dens {
			for _, r := range []api.Rat{by(num, den), by(new(big.Int).Neg(num), den)} {
				if !seen[r] && rat.Right(r) {
					seen[r] = true
					l = append(l, r)
				}
			}
		}
	}
	return l
}

// wrongs are not right.
func wrongs() []api.Rat {
	great := string(power(2, 256).Bytes())
	return []api.Rat{{}, {Num: "\x05"}, {Num: "\x05", Den: "\x00"}, {Num: "\x00\x05", Den: "\x01"}, {Num: "\x05", Den: "\x00\x02"}, {Neg: true, Den: "\x01"}, {Den: "\x02"}, {Num: "\x06", Den: "\x04"}, {Neg: true, Num: "\x02", Den: "\x06"}, {Num: "\x03", Den: "\x03"}, {Neg: true, Num: great, Den: "\x01"}, {Num: "\x01", Den: great}, {Neg: true, Num: strings.Repeat("\xff", 100_000), Den: strings.Repeat("\xfe\xff", 50_000)}}
}

// ends is behind how many places x ends, tried one after another; false: it does not.
func ends(x *big.Rat) (int, bool) {
	scaled, ten := new(big.Rat).Set(x), big.NewRat(10, 1)
	for n := range 300 {
		if scaled.IsInt() {
			return n, true
		}
		scaled.Mul(scaled, ten)
	}
	return 0, false
}

// P7.1: Ends.
func TestEnds(t *testing.T) {
	for _, c := range []struct {
		r      api.Rat
		places int
		ok     bool
	}{
		{of(0, 1), 0, true}, {of(7, 1), 0, true}, {of(-100, 1), 0, true},
		{of(1, 2), 1, true}, {of(1, 5), 1, true}, {of(-1, 10), 1, true}, {of(3, 4), 2, true}, {of(1, 25), 2, true}, {of(1, 50), 2, true}, {of(1, 20), 2, true}, {of(-5, 4), 2, true}, {of(7, 40), 3, true}, {of(7, 1250), 4, true},
		{by(big.NewInt(1), power(2, 255)), 255, true}, {by(big.NewInt(-2), power(5, 110)), 110, true},
		{of(1, 3), 0, false}, {of(1, 6), 0, false}, {of(-1, 15), 0, false}, {of(1, 7), 0, false}, {of(10, 9), 0, false}, {by(big.NewInt(1), ones(256)), 0, false},
	} {
		if places, ok := numtext.Ends(c.r); places != c.places || ok != c.ok {
			t.Errorf("Ends of %s: %d %v", number(c.r), places, ok)
		}
	}
	for _, r := range samples() {
		want, wantOK := ends(number(r))
		if places, ok := numtext.Ends(r); places != want || ok != wantOK {
			t.Errorf("Ends of %s: %d %v, want %d %v", number(r), places, ok, want, wantOK)
		}
	}
}

// P7.1: Text.
func TestText(t *testing.T) {
	zeros := strings.Repeat("0", 19)
	for want, r := range map[string]api.Rat{
		"0": of(0, 1), "7": of(7, 1), "-7": of(-7, 1), "100": of(100, 1), "-1.25": of(-5, 4), "1.25": of(5, 4), "0.5": of(1, 2), "-0.5": of(-1, 2), "0.05": of(1, 20), "10.01": of(1001, 100), "0.001": of(1, 1000), "12.5": of(25, 2),
		"1/3": of(1, 3), "-1/3": of(-1, 3), "7/6": of(7, 6), "-22/7": of(-22, 7), "1/30": of(1, 30),
		"0." + zeros + "1": by(big.NewInt(1), power(10, 20)), "-0." + zeros + "3": by(big.NewInt(-3), power(10, 20)),
		"1/1" + zeros + "00": by(big.NewInt(1), power(10, 21)), "-3/1" + zeros + "00": by(big.NewInt(-3), power(10, 21)),
		"0.00000095367431640625": by(big.NewInt(1), power(2, 20)), "1/2097152": by(big.NewInt(1), power(2, 21)),
		"0.00000000000001048576": by(big.NewInt(1), power(5, 20)), "-1/476837158203125": by(big.NewInt(-1), power(5, 21)),
		"10000000000." + zeros + "1": by(new(big.Int).Add(power(10, 30), big.NewInt(1)), power(10, 20)),
	} {
		if got := numtext.Text(r); got != want {
			t.Errorf("Text of %s: %s, want %s", number(r), got, want)
		}
	}
	for _, r := range samples() {
		x := number(r)
		want := x.Num().String() + "/" + x.Denom().String()
		if places, ok := ends(x); ok && places <= 20 {
			want = x.FloatString(places)
		}
		if got := numtext.Text(r); got != want {
			t.Errorf("Text of %s: %s, want %s", x, got, want)
		}
	}
}

// P7.1: Point.
func TestPoint(t *testing.T) {
	for want, r := range map[string]api.Rat{"0": of(0, 1), "7": of(-7, 1), "1.25": of(-5, 4), "0.05": of(1, 20), "100": of(100, 1), "0." + strings.Repeat("0", 20) + "3": by(big.NewInt(-3), power(10, 21))} {
		if got, ok := numtext.Point(r); got != want || !ok {
			t.Errorf("Point of %s: %s %v", number(r), got, ok)
		}
	}
	for _, r := range samples() {
		x := number(r)
		x.Abs(x)
		places, wantOK := ends(x)
		want := ""
		if wantOK {
			want = x.FloatString(places)
		}
		if got, ok := numtext.Point(r); got != want || ok != wantOK {
			t.Errorf("Point of %s: %s %v, want %s %v", number(r), got, ok, want, wantOK)
		}
	}
}

// P7.1: what is not right counts as 0.
func TestWhatIsNotRight(t *testing.T) {
	for _, r := range wrongs() {
		places, ends := numtext.Ends(r)
		digits, ok := numtext.Point(r)
		if text := numtext.Text(r); places != 0 || !ends || digits != "0" || !ok || text != "0" {
			t.Errorf("%#v does not count as 0: %d %v, %s %v, %s", r, places, ends, digits, ok, text)
		}
	}
}

// P7.2: Decimal of what it reads; Parse of the same, with a minus ahead too.
func TestDecimal(t *testing.T) {
	for s, want := range map[string]api.Rat{
		"0": of(0, 1), "7": of(7, 1), "007": of(7, 1), "10": of(10, 1), "1.25": of(5, 4), "01.2500": of(5, 4), "0.0": of(0, 1), "00.00": of(0, 1), "0.5": of(1, 2), "0.050": of(1, 20), "12.0": of(12, 1), "3.14": of(157, 50), "0123456789.0": of(123456789, 1),
		ones(256).String():             by(ones(256), big.NewInt(1)),
		"0." + strings.Repeat("3", 76): by(new(big.Int).Div(power(10, 76), big.NewInt(3)), power(10, 76)),
		strings.Repeat("0", 399) + "5": of(5, 1), "5." + strings.Repeat("0", 398): of(5, 1), strings.Repeat("0", 396) + "5.25": of(21, 4), strings.Repeat("0", 400): of(0, 1), "0." + strings.Repeat("0", 398): of(0, 1),
	} {
		for _, read := range []func(string) (api.Rat, api.Errno){numtext.Decimal, numtext.Parse} {
			if got, e := read(s); got != want || e != api.OK {
				t.Errorf("%s is read as %#v %d", s, got, e)
			}
		}
		if got, e := numtext.Parse("-" + s); got != rat.Neg(want) || e != api.OK {
			t.Errorf("Parse of -%s: %#v %d", s, got, e)
		}
	}
}

// P7.2: what Decimal refuses; Parse of the same, with a minus ahead too.
func TestDecimalRefuses(t *testing.T) {
	ones400, great := strings.Repeat("1", 400), power(2, 256).String()
	refused := map[string]api.Errno{
		ones400 + "1": api.ErrLong, strings.Repeat("0", 401): api.ErrLong, strings.Repeat("0", 400) + "5": api.ErrLong, "5." + strings.Repeat("0", 399): api.ErrLong, ones400 + ".5": api.ErrLong, "0." + ones400: api.ErrLong, strings.Repeat("7", 100_000): api.ErrLong,
		great: api.ErrNum, "000" + great + ".00": api.ErrNum, ones400: api.ErrNum, "0." + strings.Repeat("1", 398): api.ErrNum, "1." + strings.Repeat("0", 77) + "3": api.ErrNum, "0." + strings.Repeat("3", 100): api.ErrNum,
	}
	for _, s := range []string{
		"", ".", ".5", "5.", "1..2", "1.2.3", "1.", "a", "1a", "a1", "1.a", "a.1", "1.5a", "1.a5", " 1", "1 ", "1. 5", "1 .5", "1\n", "+1", "1e5", "0x1", "1_000", "1,5", "1.-5", "1.+5", "1-", "\x00", "1\x00", "1.\x00", "\xff", "1.\xff", "/1.5:", "1.5:", ":1.5", "١", "1.٢", "TRUE",
		ones400 + "x", "x" + ones400, ones400 + ".", "." + ones400, ones400 + ".x", "1." + ones400 + "x", ones400 + ".1.1", great + ".",
	} {
		refused[s] = api.ErrText
	}
	for s, want := range refused {
		for _, read := range []func(string) (api.Rat, api.Errno){numtext.Decimal, numtext.Parse} {
			if got, e := read(s); got != (api.Rat{}) || e != want {
				t.Errorf("%q is read as %#v %d, want %d", s, got, e, want)
			}
		}
		if got, e := numtext.Parse("-" + s); got != (api.Rat{}) || e != want {
			t.Errorf("Parse of -%q: %#v %d, want %d", s, got, e, want)
		}
	}
}

// P7.2: Decimal reads neither a minus nor a slash.
func TestDecimalOfOthers(t *testing.T) {
	for _, s := range []string{"-1", "-0", "-1.5", "1/2", "-1/2", "4/2", "1/0", "/", "/1", "1/", "0/1", "1.5/2", "1.5/", "/1.5", "1./5", "1/.5", "-" + strings.Repeat("1", 401), strings.Repeat("1", 401) + "/2"} {
		if got, e := numtext.Decimal(s); got != (api.Rat{}) || e != api.ErrText {
			t.Errorf("Decimal of %q: %#v %d", s, got, e)
		}
	}
}

// P7.2: Parse with a slash, and with a minus.
func TestParse(t *testing.T) {
	nines, zeros := strings.Repeat("9", 400), strings.Repeat("0", 399)
	for s, want := range map[string]api.Rat{
		"2/6": of(1, 3), "-2/6": of(-1, 3), "1/3": of(1, 3), "4/2": of(2, 1), "-4/2": of(-2, 1), "0/5": of(0, 1), "-0/5": of(0, 1), "007/014": of(1, 2), "-1": of(-1, 1), "-0": of(0, 1), "-0.0": of(0, 1), "-1.25": of(-5, 4), "-007": of(-7, 1),
		nines + "/" + nines: of(1, 1), "-" + nines + "/" + nines: of(-1, 1), zeros + "1/" + zeros + "2": of(1, 2), "0/" + nines: of(0, 1),
		"1/" + ones(256).String(): by(big.NewInt(1), ones(256)),
		"-" + new(big.Int).Mul(ones(256), big.NewInt(6)).String() + "/6": by(new(big.Int).Neg(ones(256)), big.NewInt(1)),
	} {
		if got, e := numtext.Parse(s); got != want || e != api.OK {
			t.Errorf("Parse of %s: %#v %d", s, got, e)
		}
	}
}

// P7.2: what Parse refuses with a slash, the error named first first; with a minus ahead the same.
func TestParseRefuses(t *testing.T) {
	long, great := strings.Repeat("1", 401), power(2, 256).String()
	for s, want := range map[string]api.Errno{
		"/": api.ErrText, "1/": api.ErrText, "/2": api.ErrText, "/0": api.ErrText, "1//2": api.ErrText, "1/2/3": api.ErrText, "1/-2": api.ErrText, "1/+2": api.ErrText, "+1/2": api.ErrText, " 1/2": api.ErrText, "1/2 ": api.ErrText, "1 /2": api.ErrText, "1/ 2": api.ErrText, "1.5/2": api.ErrText, "1/2.0": api.ErrText, "1./2": api.ErrText, "a/2": api.ErrText, "1/a": api.ErrText, "a/0": api.ErrText, "1/0x": api.ErrText, "1/\x00": api.ErrText, "\xff/1": api.ErrText,
		long + "/a": api.ErrText, "a/" + long: api.ErrText, long + "/": api.ErrText, "/" + long: api.ErrText, long + "x/1": api.ErrText, long + "/" + long + "/": api.ErrText,
		long + "/1": api.ErrLong, "1/" + long: api.ErrLong, long + "/" + long: api.ErrLong, long + "/0": api.ErrLong, "0/" + strings.Repeat("0", 401): api.ErrLong, "1/" + strings.Repeat("0", 400) + "1": api.ErrLong,
		"1/0": api.ErrZero, "0/0": api.ErrZero, "7/000": api.ErrZero, great + "/0": api.ErrZero,
		great + "/1": api.ErrNum, "1/" + great: api.ErrNum, great + "/3": api.ErrNum,
	} {
		for _, minus := range []string{"", "-"} {
			if got, e := numtext.Parse(minus + s); got != (api.Rat{}) || e != want {
				t.Errorf("Parse of %q: %#v %d, want %d", minus+s, got, e, want)
			}
		}
	}
	for _, s := range []string{"-", "--", "--1", "--1.5", "--1/2", "---1", "-+1", "+1", "- 1", " -1", "-.5", "1-", "-1-", "-1.", "-/", "−1"} {
		if got, e := numtext.Parse(s); got != (api.Rat{}) || e != api.ErrText {
			t.Errorf("Parse of %q: %#v %d", s, got, e)
		}
	}
}

// P7.3: Parse of Text, Decimal of Point; how long texts are.
func TestThereAndBack(t *testing.T) {
	longest := 0
	for _, r := range append(samples(), by(new(big.Int).Neg(ones(256)), new(big.Int).Sub(ones(256), big.NewInt(2)))) {
		text := numtext.Text(r)
		longest = max(longest, len(text))
		if got, e := numtext.Parse(text); got != r || e != api.OK {
			t.Errorf("Parse of %s: %#v %d", text, got, e)
		}
		if digits, ok := numtext.Point(r); ok && len(digits) <= 400 {
			if got, e := numtext.Decimal(digits); got != rat.Abs(r) || e != api.OK {
				t.Errorf("Decimal of %s: %#v %d", digits, got, e)
			}
		}
	}
	if longest != 158 {
		t.Errorf("the longest text has %d bytes", longest)
	}
}

// P7.1: Places, that others lean on.
func TestPlaces(t *testing.T) {
	if numtext.Places != 20 {
		t.Errorf("Places is %d", numtext.Places)
	}
}
