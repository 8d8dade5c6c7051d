package rat_test

import (
	"math"
	"math/big"
	"strings"
	"testing"

	"abacist/api"
	"abacist/rat"
)

var zero = api.Rat{Den: "\x01"}

// ones is the number of so many bits that are all 1: of 256 the greatest that a number may have.
func ones(bits uint) *big.Int {
	n := new(big.Int).Lsh(big.NewInt(1), bits)
	return n.Sub(n, big.NewInt(1))
}

// wholes are whole numbers at the edges of bytes, of words and of MaxBits, each also below 0.
func wholes() []*big.Int {
	var l []*big.Int
	for _, n := range []int64{0, 1, 2, 3, 4, 6, 10, 49, 255, 256, math.MaxInt64} {
		l = append(l, big.NewInt(n))
	}
	for _, bits := range []uint{64, 128, 255, 256, 257} {
		n := ones(bits)
		l = append(l, n, new(big.Int).Add(n, big.NewInt(1)))
	}
	for _, n := range l[1:] {
		l = append(l, new(big.Int).Neg(n))
	}
	return l
}

// told is a number as api has it; ErrNum, if it has too many bits.
func told(x *big.Rat) (api.Rat, api.Errno) {
	if x.Num().BitLen() > api.MaxBits || x.Denom().BitLen() > api.MaxBits {
		return api.Rat{}, api.ErrNum
	}
	return api.Rat{Neg: x.Sign() < 0, Num: string(x.Num().Bytes()), Den: string(x.Denom().Bytes())}, api.OK
}

// rights are right numbers, some with as many bits as may be: one of five that wholes make, so that tests of two are quick.
func rights() []api.Rat {
	var l []api.Rat
	seen := map[api.Rat]bool{}
	for i, num := range wholes() {
		for j, den := range wholes() {
			if den.Sign() <= 0 || (i+2*j)%5 != 0 {
				continue
			}
			r, e := told(new(big.Rat).SetFrac(num, den))
			if e == api.OK && !seen[r] {
				seen[r] = true
				l = append(l, r)
			}
		}
	}
	return l
}

// wrongs are not right, each for a reason of its own.
func wrongs() map[string]api.Rat {
	great := string(new(big.Int).Add(ones(256), big.NewInt(1)).Bytes())
	return map[string]api.Rat{
		"the zero Rat":                    {},
		"den 0":                           {Num: "\x05"},
		"den 0, of 1":                     {Num: "\x01"},
		"den 0 told by a byte":            {Num: "\x05", Den: "\x00"},
		"den 0, below 0":                  {Neg: true, Num: "\x05"},
		"a byte 0 ahead of num":           {Num: "\x00\x05", Den: "\x01"},
		"a byte 0 ahead of den":           {Num: "\x05", Den: "\x00\x01"},
		"num a byte 0":                    {Num: "\x00", Den: "\x01"},
		"0 below 0":                       {Neg: true, Den: "\x01"},
		"0 by 2":                          {Den: "\x02"},
		"0 by 2, below 0":                 {Neg: true, Den: "\x02"},
		"2 by 4":                          {Num: "\x02", Den: "\x04"},
		"5 by 5":                          {Num: "\x05", Den: "\x05"},
		"3 by 9, below 0":                 {Neg: true, Num: "\x03", Den: "\x09"},
		"num with 257 bits":               {Num: great, Den: "\x01"},
		"den with 257 bits":               {Num: "\x01", Den: great},
		"many bits that a byte 0 is told": {Num: "\x00" + great, Den: "\x01"},
		"a long text":                     {Num: strings.Repeat("\xff", 100_000), Den: strings.Repeat("\xfe\xff", 50_000)},
	}
}

func number(r api.Rat) *big.Rat {
	x := new(big.Rat).SetFrac(new(big.Int).SetBytes([]byte(r.Num)), new(big.Int).SetBytes([]byte(r.Den)))
	if r.Neg {
		x.Neg(x)
	}
	return x
}

func check(t *testing.T, got api.Rat, e api.Errno, want *big.Rat, call string, args ...api.Rat) {
	t.Helper()
	if wanted, wantErr := told(want); got != wanted || e != wantErr {
		t.Errorf("%s of %#v: %#v %d, want %s", call, args, got, e, want)
	}
}

// of is a small fraction.
func of(num, den int64) api.Rat {
	r, _ := told(big.NewRat(num, den))
	return r
}

// P5.1: Right.
func TestRight(t *testing.T) {
	for _, r := range rights() {
		if !rat.Right(r) {
			t.Errorf("Right of %#v", r)
		}
	}
	for why, r := range wrongs() {
		if rat.Right(r) {
			t.Errorf("Right of %s", why)
		}
	}
}

// P5.1: Make.
func TestMake(t *testing.T) {
	for _, c := range []struct{ num, den, wantNum, wantDen int64 }{{6, -4, -3, 2}, {-6, 4, -3, 2}, {-6, -4, 3, 2}, {6, 4, 3, 2}, {0, 7, 0, 1}, {0, -7, 0, 1}, {5, 1, 5, 1}, {5, -1, -5, 1}, {7, 7, 1, 1}, {1, 3, 1, 3}} {
		got, e := rat.Make(wholeOf(big.NewInt(c.num)), wholeOf(big.NewInt(c.den)))
		if got != of(c.wantNum, c.wantDen) || e != api.OK {
			t.Errorf("Make of %d and %d: %#v %d", c.num, c.den, got, e)
		}
	}
	for _, num := range wholes() {
		for _, den := range wholes() {
			for _, ahead := range []string{"", "\x00", "\x00\x00\x00"} {
				n, d := wholeOf(num), wholeOf(den)
				n.Mag, d.Mag = ahead+n.Mag, ahead+d.Mag
				got, e := rat.Make(n, d)
				if den.Sign() != 0 {
					check(t, got, e, new(big.Rat).SetFrac(num, den), "Make of "+num.String()+" and "+den.String())
				} else if got != (api.Rat{}) || e != api.ErrZero {
					t.Errorf("Make of %s and 0: %#v %d", num, got, e)
				}
			}
		}
	}
}

func wholeOf(n *big.Int) api.Whole {
	return api.Whole{Neg: n.Sign() < 0, Mag: string(n.Bytes())}
}

// P5.1: Make of whole numbers that are not told well.
func TestMakeOfMinusNothing(t *testing.T) {
	minus := api.Whole{Neg: true}
	if got, e := rat.Make(minus, api.Whole{Mag: "\x07"}); got != zero || e != api.OK {
		t.Errorf("Make of -0 and 7: %#v %d", got, e)
	}
	for _, mag := range []string{"", "\x00", "\x00\x00"} {
		if got, e := rat.Make(api.Whole{Mag: "\x07"}, api.Whole{Neg: true, Mag: mag}); got != (api.Rat{}) || e != api.ErrZero {
			t.Errorf("Make of 7 and -0: %#v %d", got, e)
		}
	}
	if got, e := rat.Make(minus, minus); got != (api.Rat{}) || e != api.ErrZero {
		t.Errorf("Make of -0 and -0: %#v %d", got, e)
	}
}

// P5.1: Make of numbers with very many bits, of which some have few when told with nothing but 1 dividing both.
func TestMakeOfLong(t *testing.T) {
	state := uint32(3)
	long := func(size int) *big.Int {
		text := make([]byte, size)
		for i := range text {
			state = state*1664525 + 1013904223
			text[i] = byte(state >> 24)
		}
		return new(big.Int).SetBytes(append([]byte{1}, text...))
	}
	most, above := ones(256), new(big.Int).Add(ones(256), big.NewInt(1))
	less := new(big.Int).Sub(most, big.NewInt(2))
	for _, size := range []int{40, 127, 128, 129, 1000, 5000} {
		shared := long(size)
		for _, c := range [][2]*big.Int{{big.NewInt(0), big.NewInt(1)}, {big.NewInt(1), big.NewInt(1)}, {big.NewInt(2), big.NewInt(-3)}, {most, big.NewInt(1)}, {big.NewInt(1), most}, {most, less}, {less, most}, {above, big.NewInt(1)}, {big.NewInt(-1), above}, {above, most}, {most, above}} {
			got, e := rat.Make(wholeOf(new(big.Int).Mul(c[0], shared)), wholeOf(new(big.Int).Mul(c[1], shared)))
			check(t, got, e, new(big.Rat).SetFrac(c[0], c[1]), "Make of "+c[0].String()+" and "+c[1].String()+", many times")
		}
		for _, other := range []*big.Int{long(size), long(size / 2), long(size / 100), big.NewInt(7)} {
			for _, pair := range [][2]*big.Int{{shared, other}, {other, shared}} {
				got, e := rat.Make(wholeOf(pair[0]), wholeOf(pair[1]))
				check(t, got, e, new(big.Rat).SetFrac(pair[0], pair[1]), "Make of long ones")
			}
		}
	}
	for _, pair := range [][2]int{{200_000, 200_000}, {200_000, 100_000}, {100_000, 200_000}, {200_000, 2}, {2, 200_000}} {
		if got, e := rat.Make(wholeOf(long(pair[0])), wholeOf(long(pair[1]))); got != (api.Rat{}) || e != api.ErrNum {
			t.Errorf("Make of numbers of %d bytes: %#v %d", pair, got, e)
		}
	}
}

// P5.1: Of.
func TestOf(t *testing.T) {
	for _, n := range []int64{0, 1, -1, 255, 256, -256, math.MaxInt32, math.MinInt32, math.MaxInt64, math.MinInt64, math.MinInt64 + 1} {
		check(t, rat.Of(n), api.OK, new(big.Rat).SetInt64(n), "Of")
	}
}

// P5.1: Sign, Neg, Abs and Bits.
func TestOneNumber(t *testing.T) {
	for _, r := range rights() {
		x := number(r)
		if got := rat.Sign(r); got != x.Sign() {
			t.Errorf("Sign of %#v: %d", r, got)
		}
		check(t, rat.Neg(r), api.OK, new(big.Rat).Neg(x), "Neg", r)
		check(t, rat.Abs(r), api.OK, new(big.Rat).Abs(x), "Abs", r)
		if got, want := rat.Bits(r), max(x.Num().BitLen(), x.Denom().BitLen()); got != want {
			t.Errorf("Bits of %#v: %d, want %d", r, got, want)
		}
	}
	for want, r := range map[int]api.Rat{1: zero, 2: of(-1, 3), 3: of(5, 2), 9: of(256, 255), 8: of(-1, 128)} {
		if got := rat.Bits(r); got != want {
			t.Errorf("Bits of %#v: %d, want %d", r, got, want)
		}
	}
}

// P5.1: Cmp. P5.4: it is Sign of Sub.
func TestCmp(t *testing.T) {
	l := rights()
	for _, a := range l {
		for _, b := range l {
			got := rat.Cmp(a, b)
			if want := number(a).Cmp(number(b)); got != want {
				t.Errorf("Cmp of %#v and %#v: %d, want %d", a, b, got, want)
			}
			if d, e := rat.Sub(a, b); e == api.OK && rat.Sign(d) != got {
				t.Errorf("Cmp of %#v and %#v: %d, but Sub: %#v", a, b, got, d)
			}
		}
	}
	for _, c := range []struct {
		a, b api.Rat
		want int
	}{{of(1, 2), of(1, 3), 1}, {of(-1, 2), of(-1, 3), -1}, {of(-1, 2), of(1, 3), -1}, {of(2, 3), of(2, 3), 0}, {zero, of(-1, 9), 1}, {of(7, 1), of(22, 3), -1}} {
		if got := rat.Cmp(c.a, c.b); got != c.want {
			t.Errorf("Cmp of %#v and %#v: %d", c.a, c.b, got)
		}
	}
}

// P5.2: Add, Sub, Mul and Div, with the errors of Div by 0 and of too many bits.
func TestReckoning(t *testing.T) {
	tooMany := 0
	for _, a := range rights() {
		for _, b := range rights() {
			x, y := number(a), number(b)
			sum, e := rat.Add(a, b)
			check(t, sum, e, new(big.Rat).Add(x, y), "Add", a, b)
			if e == api.ErrNum {
				tooMany++
			}
			difference, e := rat.Sub(a, b)
			check(t, difference, e, new(big.Rat).Sub(x, y), "Sub", a, b)
			product, e := rat.Mul(a, b)
			check(t, product, e, new(big.Rat).Mul(x, y), "Mul", a, b)
			quotient, e := rat.Div(a, b)
			if y.Sign() != 0 {
				check(t, quotient, e, new(big.Rat).Quo(x, y), "Div", a, b)
			} else if quotient != (api.Rat{}) || e != api.ErrZero {
				t.Errorf("Div of %#v by 0: %#v %d", a, quotient, e)
			}
		}
	}
	if tooMany == 0 {
		t.Error("no sum has too many bits: the samples are too small")
	}
}

// P5.2: small ones, written out.
func TestReckoningOfSmallOnes(t *testing.T) {
	for _, c := range []struct{ a, b, add, sub, mul, div api.Rat }{
		{of(1, 2), of(1, 3), of(5, 6), of(1, 6), of(1, 6), of(3, 2)},
		{of(-1, 2), of(1, 2), zero, of(-1, 1), of(-1, 4), of(-1, 1)},
		{of(3, 4), of(-1, 4), of(1, 2), of(1, 1), of(-3, 16), of(-3, 1)},
		{zero, of(-7, 5), of(-7, 5), of(7, 5), zero, zero},
	} {
		add, _ := rat.Add(c.a, c.b)
		sub, _ := rat.Sub(c.a, c.b)
		mul, _ := rat.Mul(c.a, c.b)
		div, _ := rat.Div(c.a, c.b)
		if add != c.add || sub != c.sub || mul != c.mul || div != c.div {
			t.Errorf("%#v and %#v: %#v %#v %#v %#v", c.a, c.b, add, sub, mul, div)
		}
	}
}

// P5.2: just as many bits as may be, and one more.
func TestMostBits(t *testing.T) {
	most, _ := told(new(big.Rat).SetInt(ones(256)))
	least, _ := told(new(big.Rat).SetFrac(big.NewInt(-1), ones(256)))
	half, _ := told(new(big.Rat).SetInt(new(big.Int).Lsh(big.NewInt(1), 255)))
	for call, c := range map[string]struct {
		f    func(a, b api.Rat) (api.Rat, api.Errno)
		a, b api.Rat
		want api.Errno
	}{
		"the greatest and 0":          {rat.Add, most, zero, api.OK},
		"the greatest and 1":          {rat.Add, most, of(1, 1), api.ErrNum},
		"the greatest without 1":      {rat.Sub, most, of(1, 1), api.OK},
		"the lowest without 1":        {rat.Sub, rat.Neg(most), of(1, 1), api.ErrNum},
		"the half twice":              {rat.Mul, half, of(2, 1), api.ErrNum},
		"the half by the half":        {rat.Div, half, half, api.OK},
		"the greatest by -1":          {rat.Div, most, of(-1, 1), api.OK},
		"1 by the greatest":           {rat.Div, of(1, 1), most, api.OK},
		"1/2 by the greatest":         {rat.Div, of(1, 2), most, api.ErrNum},
		"the least and 0":             {rat.Add, least, zero, api.OK},
		"the least twice":             {rat.Mul, least, of(2, 1), api.OK},
		"half of the least":           {rat.Mul, least, of(1, 2), api.ErrNum},
		"the least and 1":             {rat.Add, least, of(1, 1), api.OK},
		"the least without 1":         {rat.Sub, least, of(1, 1), api.ErrNum},
		"the least times the lowest":  {rat.Mul, least, rat.Neg(most), api.OK},
		"the least times itself":      {rat.Mul, least, least, api.ErrNum},
		"the greatest times itself":   {rat.Mul, most, most, api.ErrNum},
		"the greatest by the least":   {rat.Div, most, least, api.ErrNum},
		"the greatest without itself": {rat.Sub, most, most, api.OK},
	} {
		if got, e := c.f(c.a, c.b); e != c.want || rat.Right(got) != (e == api.OK) || e != api.OK && got != (api.Rat{}) {
			t.Errorf("%s: %#v %d", call, got, e)
		}
	}
}

// P5.1 and P5.2: what is not right counts as 0.
func TestWhatIsNotRight(t *testing.T) {
	for why, r := range wrongs() {
		if rat.Sign(r) != 0 || rat.Neg(r) != zero || rat.Abs(r) != zero || rat.Bits(r) != 1 || rat.Cmp(r, r) != 0 {
			t.Errorf("%s: it does not count as 0", why)
		}
		for _, x := range []api.Rat{zero, of(-7, 5), of(9, 1)} {
			if rat.Cmp(r, x) != -rat.Sign(x) || rat.Cmp(x, r) != rat.Sign(x) {
				t.Errorf("%s: Cmp with %#v", why, x)
			}
			for _, c := range []struct {
				f            func(a, b api.Rat) (api.Rat, api.Errno)
				first, later api.Rat
			}{{rat.Add, x, x}, {rat.Sub, rat.Neg(x), x}, {rat.Mul, zero, zero}} {
				first, e := c.f(r, x)
				later, f := c.f(x, r)
				if first != c.first || later != c.later || e != api.OK || f != api.OK {
					t.Errorf("%s: with %#v: %#v %d %#v %d", why, x, first, e, later, f)
				}
			}
			if got, e := rat.Div(x, r); got != (api.Rat{}) || e != api.ErrZero {
				t.Errorf("%s: %#v by it: %#v %d", why, x, got, e)
			}
		}
		if got, e := rat.Div(r, of(-7, 5)); got != zero || e != api.OK {
			t.Errorf("%s: by -7/5: %#v %d", why, got, e)
		}
	}
}

// P5.3: of two.
func TestOrderAndBack(t *testing.T) {
	l := rights()
	for _, a := range l {
		for _, b := range l {
			sum, e := rat.Add(a, b)
			turned, turnedErr := rat.Add(b, a)
			if sum != turned || e != turnedErr {
				t.Errorf("Add of %#v and %#v minds the order", a, b)
			}
			if back, f := rat.Sub(sum, b); e == api.OK && (back != a || f != api.OK) {
				t.Errorf("Sub of Add of %#v and %#v: %#v %d", a, b, back, f)
			}
			product, e := rat.Mul(a, b)
			turned, turnedErr = rat.Mul(b, a)
			if product != turned || e != turnedErr {
				t.Errorf("Mul of %#v and %#v minds the order", a, b)
			}
			if back, f := rat.Div(product, b); e == api.OK && rat.Sign(b) != 0 && (back != a || f != api.OK) {
				t.Errorf("Div of Mul of %#v and %#v: %#v %d", a, b, back, f)
			}
		}
	}
}

// P5.3: Mul of a sum is the sum of products.
func TestMulOfSums(t *testing.T) {
	l := rights()
	held := 0
	for i, a := range l {
		for j, b := range l {
			c := l[(7*i+13*j)%len(l)]
			sum, e := rat.Add(b, c)
			first, f := rat.Mul(a, b)
			second, g := rat.Mul(a, c)
			if e != api.OK || f != api.OK || g != api.OK {
				continue
			}
			got, e := rat.Mul(a, sum)
			want, f := rat.Add(first, second)
			if got != want || e != f {
				t.Errorf("%#v times the sum of %#v and %#v: %#v %d, want %#v %d", a, b, c, got, e, want, f)
			}
			held++
		}
	}
	if held == 0 {
		t.Error("all samples have too many bits")
	}
}
