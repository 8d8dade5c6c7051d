package whole_test

import (
	"math"
	"math/big"
	"strings"
	"testing"

	"abacist/api"
	"abacist/dec"
	"abacist/whole"
)

// samples are whole numbers at the edges of bytes and words, each also below 0, and some that are not told well.
func samples() []api.Whole {
	mags := []string{"", "\x00", "\x00\x00", "\x01", "\x00\x01", "\x02", "\x03", "\x07", "\x00\x07", "\xff", "\x01\x00", "\x00\x01\x00", "\x7f\xff\xff\xff\xff\xff\xff\xff", "\x80\x00\x00\x00\x00\x00\x00\x00", "\x80\x00\x00\x00\x00\x00\x00\x01", "\xff\xff\xff\xff\xff\xff\xff\xff", "\x01\x00\x00\x00\x00\x00\x00\x00\x00", "a text of any bytes \xff\xfe", strings.Repeat("\xff", 33), strings.Repeat("\x80\x00", 20)}
	var l []api.Whole
	for _, mag := range mags {
		l = append(l, api.Whole{Mag: mag}, api.Whole{Neg: true, Mag: mag})
	}
	return l
}

func number(a api.Whole) *big.Int {
	n := new(big.Int).SetBytes([]byte(a.Mag))
	if a.Neg {
		n.Neg(n)
	}
	return n
}

// well is a number as it is told well.
func well(n *big.Int) api.Whole {
	return api.Whole{Neg: n.Sign() < 0, Mag: string(n.Bytes())}
}

func check(t *testing.T, got api.Whole, want *big.Int, call string, args ...api.Whole) {
	t.Helper()
	if got != well(want) {
		t.Errorf("%s of %v: %v, want %s", call, args, got, want)
	}
}

// P4.1: Make.
func TestMake(t *testing.T) {
	for _, a := range samples() {
		check(t, whole.Make(a.Neg, a.Mag), number(a), "Make", a)
	}
	if got := whole.Make(true, "\x00\x05"); got != (api.Whole{Neg: true, Mag: "\x05"}) {
		t.Errorf("Make of -5: %v", got)
	}
	if got := whole.Make(true, "\x00"); got != (api.Whole{}) {
		t.Errorf("Make of -0: %v", got)
	}
}

// P4.1: Of and Small.
func TestSmallNumbers(t *testing.T) {
	for _, n := range []int64{0, 1, -1, 5, -5, 255, 256, -256, math.MaxInt32, math.MinInt32, math.MaxInt64, math.MaxInt64 - 1, math.MinInt64, math.MinInt64 + 1} {
		a := whole.Of(n)
		check(t, a, big.NewInt(n), "Of", a)
		for _, ahead := range []string{"", "\x00", "\x00\x00\x00\x00\x00\x00\x00\x00\x00"} {
			if got, ok := whole.Small(api.Whole{Neg: a.Neg, Mag: ahead + a.Mag}); got != n || !ok {
				t.Errorf("Small of %d: %d %v", n, got, ok)
			}
		}
	}
	if n, ok := whole.Small(api.Whole{Neg: true, Mag: "\x00"}); n != 0 || !ok {
		t.Errorf("Small of -0: %d %v", n, ok)
	}
	for _, a := range samples() {
		want := number(a)
		n, ok := whole.Small(a)
		if ok != want.IsInt64() || ok && n != want.Int64() || !ok && n != 0 {
			t.Errorf("Small of %v: %d %v", a, n, ok)
		}
	}
}

// P4.1: Cmp, Neg and Abs.
func TestCmpNegAbs(t *testing.T) {
	for _, a := range samples() {
		check(t, whole.Neg(a), new(big.Int).Neg(number(a)), "Neg", a)
		check(t, whole.Abs(a), new(big.Int).Abs(number(a)), "Abs", a)
		for _, b := range samples() {
			if got, want := whole.Cmp(a, b), number(a).Cmp(number(b)); got != want {
				t.Errorf("Cmp of %v and %v: %d, want %d", a, b, got, want)
			}
		}
	}
	for _, c := range []struct {
		a, b int64
		want int
	}{{-7, 2, -1}, {2, -7, 1}, {-7, -2, -1}, {-2, -7, 1}, {7, 2, 1}, {-7, -7, 0}, {0, -1, 1}, {-1, 0, -1}, {math.MinInt64, math.MaxInt64, -1}} {
		if got := whole.Cmp(whole.Of(c.a), whole.Of(c.b)); got != c.want {
			t.Errorf("Cmp of %d and %d: %d", c.a, c.b, got)
		}
	}
	if got := whole.Cmp(api.Whole{Neg: true, Mag: "\x00"}, api.Whole{}); got != 0 {
		t.Errorf("Cmp of -0 and 0: %d", got)
	}
}

// P4.2: Add, Sub and Mul.
func TestReckoning(t *testing.T) {
	for _, a := range samples() {
		for _, b := range samples() {
			x, y := number(a), number(b)
			check(t, whole.Add(a, b), new(big.Int).Add(x, y), "Add", a, b)
			check(t, whole.Sub(a, b), new(big.Int).Sub(x, y), "Sub", a, b)
			check(t, whole.Mul(a, b), new(big.Int).Mul(x, y), "Mul", a, b)
		}
	}
}

// P4.2: Floor.
func TestFloor(t *testing.T) {
	for _, c := range []struct{ a, b, q, r int64 }{{-7, 2, -4, 1}, {7, -2, -4, -1}, {7, 2, 3, 1}, {-7, -2, 3, -1}, {6, 2, 3, 0}, {-6, 2, -3, 0}, {6, -2, -3, 0}, {-6, -2, 3, 0}, {1, 3, 0, 1}, {-1, 3, -1, 2}, {1, -3, -1, -2}, {-1, -3, 0, -1}, {0, 5, 0, 0}, {0, -5, 0, 0}, {math.MinInt64, -1, math.MinInt64, 0}} {
		wantQ := whole.Of(c.q)
		if c.a == math.MinInt64 {
			wantQ = whole.Neg(wantQ)
		}
		q, r, e := whole.Floor(whole.Of(c.a), whole.Of(c.b))
		if q != wantQ || r != whole.Of(c.r) || e != api.OK {
			t.Errorf("Floor of %d and %d: %v %v %d", c.a, c.b, q, r, e)
		}
	}
	for _, a := range samples() {
		for _, neg := range []bool{false, true} {
			for _, zero := range []string{"", "\x00", "\x00\x00\x00\x00\x00"} {
				if q, r, e := whole.Floor(a, api.Whole{Neg: neg, Mag: zero}); q != (api.Whole{}) || r != (api.Whole{}) || e != api.ErrZero {
					t.Errorf("Floor of %v and 0: %v %v %d", a, q, r, e)
				}
			}
		}
	}
}

// P4.2 and P4.4: the quotient is the greatest that is not above; it and the rest make a again.
func TestFloorBack(t *testing.T) {
	for _, a := range samples() {
		for _, b := range samples() {
			q, r, e := whole.Floor(a, b)
			if e != api.OK {
				continue
			}
			if whole.Cmp(whole.Add(whole.Mul(b, q), r), a) != 0 {
				t.Errorf("Floor of %v and %v: %v %v are not a", a, b, q, r)
			}
			if r.Mag != "" && r.Neg != b.Neg || whole.Cmp(whole.Abs(r), whole.Abs(b)) >= 0 {
				t.Errorf("Floor of %v and %v: rest %v", a, b, r)
			}
			check(t, q, number(q), "Floor", a, b)
			check(t, r, number(r), "Floor", a, b)
		}
	}
}

// P4.3: Text.
func TestText(t *testing.T) {
	for n, want := range map[int64]string{0: "0", 7: "7", -7: "-7", 258: "258", -1000000000: "-1000000000", math.MinInt64: "-9223372036854775808"} {
		if got := whole.Text(whole.Of(n)); got != want {
			t.Errorf("Text of %d: %s", n, got)
		}
	}
	for _, a := range samples() {
		if got, want := whole.Text(a), number(a).String(); got != want {
			t.Errorf("Text of %v: %s, want %s", a, got, want)
		}
	}
}

// P4.3: Parse.
func TestParse(t *testing.T) {
	for s, want := range map[string]int64{"0": 0, "-0": 0, "-000": 0, "7": 7, "-7": -7, "007": 7, "-007": -7, "9223372036854775807": math.MaxInt64, "-9223372036854775808": math.MinInt64} {
		if got, e := whole.Parse(s); got != whole.Of(want) || e != api.OK {
			t.Errorf("Parse of %s: %v %d", s, got, e)
		}
	}
	nines := strings.Repeat("9", dec.Most)
	for s, want := range map[string]api.Errno{
		"": api.ErrForm, "-": api.ErrForm, "--": api.ErrForm, "--5": api.ErrForm, "5-": api.ErrForm, "+5": api.ErrForm, "- 5": api.ErrForm, " -5": api.ErrForm, "-5 ": api.ErrForm, "1-2": api.ErrForm, "1.5": api.ErrForm, "x": api.ErrForm, "\xff": api.ErrForm, "\u22125": api.ErrForm,
		nines + "9": api.ErrLong, "-" + nines + "9": api.ErrLong, "-" + nines + "x": api.ErrForm, "--" + nines: api.ErrForm,
	} {
		if got, e := whole.Parse(s); got != (api.Whole{}) || e != want {
			t.Errorf("Parse of %q: %v %d, want %d", s, got, e, want)
		}
	}
	if got, e := whole.Parse("-" + nines); whole.Text(got) != "-"+nines || e != api.OK {
		t.Errorf("Parse of a minus and %d digits: %d", dec.Most, e)
	}
}

// P4.5.
func TestThereAndBack(t *testing.T) {
	for _, a := range append(samples(), api.Whole{Neg: true, Mag: strings.Repeat("\xff", 166)}) {
		if got, e := whole.Parse(whole.Text(a)); got != whole.Make(a.Neg, a.Mag) || e != api.OK {
			t.Errorf("Parse of Text of %v: %v %d", a, got, e)
		}
		for _, b := range samples() {
			if got := whole.Sub(whole.Add(a, b), b); got != whole.Make(a.Neg, a.Mag) {
				t.Errorf("Sub of Add of %v and %v: %v", a, b, got)
			}
		}
	}
	long := api.Whole{Neg: true, Mag: strings.Repeat("\xff", 167)}
	if got, e := whole.Parse(whole.Text(long)); got != (api.Whole{}) || e != api.ErrLong {
		t.Errorf("Parse of Text of a long one: %v %d", got, e)
	}
}
