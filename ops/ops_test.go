package ops_test

import (
	"cmp"
	"math"
	"math/big"
	"slices"
	"strings"
	"testing"

	"abacist/api"
	"abacist/ops"
)

// told is a number as api has it; ErrNum, if it has too many bits.
func told(x *big.Rat) (api.Rat, api.Errno) {
	if x.Num().BitLen() > api.MaxBits || x.Denom().BitLen() > api.MaxBits {
		return api.Rat{}, api.ErrNum
	}
	return api.Rat{Neg: x.Sign() < 0, Num: string(x.Num().Bytes()), Den: string(x.Denom().Bytes())}, api.OK
}

// given is the number that a right one is.
func given(r api.Rat) *big.Rat {
	x := new(big.Rat).SetFrac(new(big.Int).SetBytes([]byte(r.Num)), new(big.Int).SetBytes([]byte(r.Den)))
	if r.Neg {
		x.Neg(x)
	}
	return x
}

// number is the number that x is, or the fault of one with too many bits.
func number(x *big.Rat) api.Value {
	r, e := told(x)
	if e != api.OK {
		return fault(api.FaultNum)
	}
	return api.Value{Kind: api.Number, Num: r}
}

// of is a small fraction.
func of(a, b int64) api.Rat {
	r, _ := told(big.NewRat(a, b))
	return r
}

func num(a, b int64) api.Value { return api.Value{Kind: api.Number, Num: of(a, b)} }
func text(s string) api.Value  { return api.Value{Kind: api.Text, Text: s} }
func truth(b bool) api.Value   { return api.Value{Kind: api.Truth, Truth: b} }
func fault(n int) api.Value    { return api.Value{Kind: api.Fault, Fault: n} }

// twoTo is 2^n.
func twoTo(n uint) *big.Int { return new(big.Int).Lsh(big.NewInt(1), n) }

// ones is the number of so many bits that are all 1: of 256 the greatest that a number may have.
func ones(n uint) *big.Int { return new(big.Int).Sub(twoTo(n), big.NewInt(1)) }

// quotient is a by b.
func quotient(a, b *big.Int) api.Rat {
	r, _ := told(new(big.Rat).SetFrac(a, b))
	return r
}

// numbers are numbers of all kinds, each also below 0.
func numbers() []api.Rat {
	one := big.NewInt(1)
	l := []api.Rat{of(0, 1), quotient(ones(256), one), quotient(one, ones(256)), quotient(twoTo(255), one), quotient(ones(128), twoTo(128)), quotient(twoTo(63), one)}
	for _, a := range []int64{1, 2, 3, 7, 100, 12345, math.MaxInt64} {
		for _, b := range []int64{1, 2, 3, 100, 1 << 20} {
			l = append(l, of(a, b))
		}
	}
	for _, r := range slices.Clone(l) {
		if r.Num != "" {
			r.Neg = true
			l = append(l, r)
		}
	}
	return l
}

// wrongs can not be.
func wrongs() []api.Value {
	return []api.Value{
		{Kind: -1}, {Kind: 5}, {Kind: math.MaxInt}, {Kind: math.MinInt}, {Kind: api.Number}, {Text: "1"}, {Truth: true}, {Fault: 7},
		{Kind: api.Number, Num: api.Rat{Num: "\x06", Den: "\x04"}}, {Kind: api.Number, Num: of(1, 1), Fault: 7}, {Kind: api.Number, Num: api.Rat{Num: "\x01" + strings.Repeat("\x00", 32), Den: "\x01"}},
		text("a\n"), text("\x7f"), text(strings.Repeat("1", 201)), {Kind: api.Truth, Truth: true, Fault: 6}, fault(0), fault(8), fault(-1), {Kind: api.Fault, Fault: 3, Text: "a"},
	}
}

// faulty are values that have faults, and the faults that are told of them.
func faulty() ([]api.Value, []int) {
	values := wrongs()
	told := slices.Repeat([]int{api.FaultValue}, len(values))
	for n := 1; n <= 7; n++ {
		values, told = append(values, fault(n)), append(told, n)
	}
	return values, told
}

// counted are values beside the numbers that they count as.
func counted() map[api.Value]api.Rat {
	return map[api.Value]api.Rat{
		{}: of(0, 1), truth(true): of(1, 1), truth(false): of(0, 1), text("12"): of(12, 1), text("-0.5"): of(-1, 2), text("6/4"): of(3, 2), num(-7, 3): of(-7, 3),
	}
}

// unread are texts that are no numbers.
func unread() []string {
	return []string{"", "a", " 1", "1 ", "TRUE", "FALSE", "--1", "+1", "1e3", "1/0", ".5", "5.", "#N/A", "1" + strings.Repeat("0", 78)}
}

var (
	reckoners = []int{api.OpAdd, api.OpSub, api.OpMul, api.OpDiv, api.OpPow}
	comparers = []int{api.OpEq, api.OpNe, api.OpLt, api.OpLe, api.OpGt, api.OpGe}
	binaries  = append(append([]int{api.OpJoin}, reckoners...), comparers...)
)

// others are operators' numbers but those of which is said that they are some, beside numbers that no operator has.
func others(but ...int) []int {
	l := []int{math.MinInt, math.MaxInt, -1 << 32, 1<<32 + api.OpAdd, 256 + api.OpNeg}
	for op := -20; op <= 40; op++ {
		if !slices.Contains(but, op) {
			l = append(l, op)
		}
	}
	return l
}

// P17.1: opposites, and numbers by 100, held against math/big.
func TestUnary(t *testing.T) {
	for _, r := range numbers() {
		x, v := given(r), api.Value{Kind: api.Number, Num: r}
		if got := ops.Unary(api.OpNeg, v); got != number(new(big.Rat).Neg(x)) {
			t.Errorf("- of %s: %#v", x, got)
		}
		if got := ops.Unary(api.OpPercent, v); got != number(new(big.Rat).Quo(x, big.NewRat(100, 1))) {
			t.Errorf("%s%%: %#v", x, got)
		}
	}
	for v, r := range counted() {
		x := given(r)
		if got := ops.Unary(api.OpNeg, v); got != number(new(big.Rat).Neg(x)) {
			t.Errorf("- of %#v: %#v", v, got)
		}
		if got := ops.Unary(api.OpPercent, v); got != number(new(big.Rat).Quo(x, big.NewRat(100, 1))) {
			t.Errorf("%#v%%: %#v", v, got)
		}
	}
}

// P17.1: a number by 100 may have too many bits; its opposite never has.
func TestUnaryAtTheEnds(t *testing.T) {
	least := api.Value{Kind: api.Number, Num: quotient(big.NewInt(1), ones(256))}
	if got := ops.Unary(api.OpPercent, least); got != fault(api.FaultNum) {
		t.Errorf("the least number by 100: %#v", got)
	}
	if got := ops.Unary(api.OpNeg, least); got.Kind != api.Number || !got.Num.Neg {
		t.Errorf("the least number's opposite: %#v", got)
	}
	if got := ops.Unary(api.OpPercent, num(100, 1)); got != num(1, 1) {
		t.Errorf("100%%: %#v", got)
	}
	if got := ops.Unary(api.OpNeg, num(0, 1)); got != num(0, 1) {
		t.Errorf("- of 0: %#v", got)
	}
}

// P17.1: faults are answered as such; of other operators FaultValue.
func TestUnaryFaults(t *testing.T) {
	values, faults := faulty()
	for _, s := range unread() {
		values, faults = append(values, text(s)), append(faults, api.FaultValue)
	}
	for i, v := range values {
		for _, op := range []int{api.OpNeg, api.OpPercent} {
			if got := ops.Unary(op, v); got != fault(faults[i]) {
				t.Errorf("Unary %d of %#v: %#v", op, v, got)
			}
		}
	}
	for _, op := range others(api.OpNeg, api.OpPercent) {
		for _, v := range []api.Value{{}, num(1, 1), num(0, 1), text("2"), text("a"), truth(true), fault(api.FaultValue), {Kind: 9}} {
			if got := ops.Unary(op, v); got != fault(api.FaultValue) {
				t.Errorf("Unary %d of %#v: %#v", op, v, got)
			}
		}
	}
}

// power is x to the power of y, held as Power tells it, of numbers whose power is short; false, if this does not tell.
func power(x, y *big.Rat) (api.Value, bool) {
	switch {
	case !y.IsInt() || !y.Num().IsInt64():
		return api.Value{}, false
	case y.Sign() == 0:
		return num(1, 1), true
	case x.Sign() == 0 && y.Sign() < 0:
		return fault(api.FaultDiv), true
	case x.Sign() == 0:
		return num(0, 1), true
	}
	n := new(big.Int).Abs(y.Num())
	if n.BitLen() > 10 {
		return api.Value{}, false
	}
	made := new(big.Rat).SetFrac(new(big.Int).Exp(x.Num(), n, nil), new(big.Int).Exp(x.Denom(), n, nil))
	if y.Sign() < 0 {
		made.Inv(made)
	}
	return number(made), true
}

// reckoned is what an operator with numbers tells of x and y; false, if this does not tell.
func reckoned(op int, x, y *big.Rat) (api.Value, bool) {
	switch op {
	case api.OpAdd:
		return number(new(big.Rat).Add(x, y)), true
	case api.OpSub:
		return number(new(big.Rat).Sub(x, y)), true
	case api.OpMul:
		return number(new(big.Rat).Mul(x, y)), true
	case api.OpPow:
		return power(x, y)
	}
	if y.Sign() == 0 {
		return fault(api.FaultDiv), true
	}
	return number(new(big.Rat).Quo(x, y)), true
}

// P17.2: sums, differences, products, quotients and powers, held against math/big.
func TestReckoned(t *testing.T) {
	faults := map[int]int{}
	for _, a := range numbers() {
		for _, b := range numbers() {
			for _, op := range reckoners {
				want, known := reckoned(op, given(a), given(b))
				got := ops.Binary(op, api.Value{Kind: api.Number, Num: a}, api.Value{Kind: api.Number, Num: b})
				if known && got != want {
					t.Errorf("Binary %d of %s and %s: %#v, want %#v", op, given(a), given(b), got, want)
				}
				faults[got.Fault]++
			}
		}
	}
	if faults[0] == 0 || faults[api.FaultDiv] == 0 || faults[api.FaultNum] == 0 {
		t.Errorf("what is to be tried was not: %v", faults)
	}
}

// P17.2: operands are numbers as package coerce has them.
func TestReckonedOfOthers(t *testing.T) {
	for a, x := range counted() {
		for b, y := range counted() {
			for _, op := range reckoners {
				want, known := reckoned(op, given(x), given(y))
				if got := ops.Binary(op, a, b); known && got != want {
					t.Errorf("Binary %d of %#v and %#v: %#v, want %#v", op, a, b, got, want)
				}
			}
		}
	}
}

// P17.2: the chapter's examples, and others, one by one.
func TestBinary(t *testing.T) {
	for i, c := range []struct {
		op         int
		a, b, want api.Value
	}{
		{api.OpAdd, num(1, 1), truth(true), num(2, 1)}, {api.OpMul, text("2"), num(3, 1), num(6, 1)}, {api.OpDiv, num(1, 1), num(0, 1), fault(1)}, {api.OpPow, num(4, 1), num(1, 2), num(2, 1)},
		{api.OpAdd, num(1, 2), num(1, 3), num(5, 6)}, {api.OpSub, num(1, 2), num(1, 3), num(1, 6)}, {api.OpSub, num(1, 3), num(1, 2), num(-1, 6)}, {api.OpDiv, num(1, 2), num(1, 3), num(3, 2)}, {api.OpDiv, num(0, 1), num(-5, 1), num(0, 1)},
		{api.OpDiv, num(0, 1), num(0, 1), fault(1)}, {api.OpDiv, num(1, 1), api.Value{}, fault(1)}, {api.OpDiv, num(1, 1), truth(false), fault(1)}, {api.OpDiv, num(1, 1), text("0/5"), fault(1)},
		{api.OpPow, num(2, 1), num(-2, 1), num(1, 4)}, {api.OpPow, num(-2, 1), num(3, 1), num(-8, 1)}, {api.OpPow, num(0, 1), num(0, 1), num(1, 1)}, {api.OpPow, api.Value{}, api.Value{}, num(1, 1)}, {api.OpPow, num(0, 1), num(-1, 1), fault(1)}, {api.OpPow, num(0, 1), num(-1, 2), fault(1)},
		{api.OpPow, num(2, 1), num(1, 2), fault(5)}, {api.OpPow, num(8, 1), num(1, 3), fault(5)}, {api.OpPow, num(2, 1), num(256, 1), fault(5)}, {api.OpPow, text("9/4"), text("0.5"), num(3, 2)},
		{api.OpJoin, text("a"), text("b"), text("ab")}, {api.OpJoin, num(1, 2), truth(true), text("0.5TRUE")}, {api.OpJoin, num(1, 3), num(-2, 1), text("1/3-2")}, {api.OpJoin, api.Value{}, api.Value{}, text("")}, {api.OpJoin, api.Value{}, truth(false), text("FALSE")}, {api.OpJoin, text("1"), text("2"), text("12")},
		{api.OpEq, num(1, 1), text("1"), truth(false)}, {api.OpNe, num(1, 1), text("1"), truth(true)}, {api.OpEq, num(1, 1), truth(true), truth(false)}, {api.OpEq, text("a"), text("A"), truth(false)}, {api.OpEq, num(2, 4), num(1, 2), truth(true)},
	} {
		if got := ops.Binary(c.op, c.a, c.b); got != c.want {
			t.Errorf("%d: Binary %d of %#v and %#v: %#v", i, c.op, c.a, c.b, got)
		}
	}
}

// P17.2: texts that are joined, at most 200 bytes.
func TestJoined(t *testing.T) {
	long := strings.Repeat("ab", 100)
	for n := 0; n <= len(long); n++ {
		a, b := text(long[:n]), text(long[n:])
		if got := ops.Binary(api.OpJoin, a, b); got != text(long) {
			t.Errorf("%d and %d bytes: %#v", n, len(long)-n, got)
		}
		if got := ops.Binary(api.OpJoin, a, text(long[n:]+"c")); n > 0 && got != fault(api.FaultValue) {
			t.Errorf("%d and %d bytes: %#v", n, len(long)-n+1, got)
		}
	}
	if got := ops.Binary(api.OpJoin, text(long), num(1, 1)); got != fault(api.FaultValue) {
		t.Errorf("200 bytes and a number: %#v", got)
	}
	if got := ops.Binary(api.OpJoin, api.Value{}, text(long)); got != text(long) {
		t.Errorf("nothing and 200 bytes: %#v", got)
	}
}

// rising are values none of which is Blank, each one above the one ahead.
func rising() []api.Value {
	return []api.Value{
		{Kind: api.Number, Num: quotient(new(big.Int).Neg(ones(256)), big.NewInt(1))}, num(-2, 1), num(-1, 3), num(0, 1), num(1, 3), num(1, 2), num(2, 1), num(10, 1), {Kind: api.Number, Num: quotient(ones(256), big.NewInt(1))},
		text(""), text(" "), text("1"), text("10"), text("2"), text("A"), text("TRUE"), text("a"), text("aa"), text("b"), text("~"),
		truth(false), truth(true),
	}
}

// orders are those of which a comparison holds.
var orders = map[int][]int{api.OpEq: {0}, api.OpNe: {-1, 1}, api.OpLt: {-1}, api.OpLe: {-1, 0}, api.OpGt: {1}, api.OpGe: {0, 1}}

// holds is whether a comparison holds of an order.
func holds(op, order int) bool { return slices.Contains(orders[op], order) }

// P17.2: each comparison, of all kinds.
func TestCompared(t *testing.T) {
	for i, a := range rising() {
		for j, b := range rising() {
			for _, op := range comparers {
				if got := ops.Binary(op, a, b); got != truth(holds(op, cmp.Compare(i, j))) {
					t.Errorf("Binary %d of %#v and %#v: %#v", op, a, b, got)
				}
			}
		}
	}
}

// P17.2: a Blank beside another kind is that kind's first value.
func TestComparedBlank(t *testing.T) {
	for v, order := range map[api.Value]int{{}: 0, num(-1, 3): 1, num(0, 1): 0, num(1, 3): -1, text(""): 0, text(" "): -1, truth(false): 0, truth(true): -1} {
		for _, op := range comparers {
			if got := ops.Binary(op, api.Value{}, v); got != truth(holds(op, order)) {
				t.Errorf("Binary %d of Blank and %#v: %#v", op, v, got)
			}
			if got := ops.Binary(op, v, api.Value{}); got != truth(holds(op, -order)) {
				t.Errorf("Binary %d of %#v and Blank: %#v", op, v, got)
			}
		}
	}
}

// P17.2, P17.4: the first operand's fault is the answer, whatever the second one is; else the second one's.
func TestBinaryFaults(t *testing.T) {
	values, faults := faulty()
	sound := []api.Value{{}, num(0, 1), num(3, 2), text("7"), truth(true)}
	for i, v := range values {
		for _, op := range binaries {
			for _, b := range slices.Concat(sound, values, []api.Value{text("a")}) {
				if got := ops.Binary(op, v, b); got != fault(faults[i]) {
					t.Errorf("Binary %d of %#v and %#v: %#v", op, v, b, got)
				}
			}
			for _, a := range sound {
				if got := ops.Binary(op, a, v); got != fault(faults[i]) {
					t.Errorf("Binary %d of %#v and %#v: %#v", op, a, v, got)
				}
			}
		}
	}
}

// P17.2, P17.4: a text that is no number is FaultValue to operators with numbers alone.
func TestUnreadOperands(t *testing.T) {
	for _, s := range unread() {
		for _, op := range reckoners {
			for _, b := range []api.Value{{}, num(0, 1), text("a"), fault(api.FaultDiv), fault(api.FaultCirc)} {
				if got := ops.Binary(op, text(s), b); got != fault(api.FaultValue) {
					t.Errorf("Binary %d of %q and %#v: %#v", op, s, b, got)
				}
			}
			if got := ops.Binary(op, num(1, 1), text(s)); got != fault(api.FaultValue) {
				t.Errorf("Binary %d of 1 and %q: %#v", op, s, got)
			}
			if got := ops.Binary(op, fault(api.FaultNA), text(s)); got != fault(api.FaultNA) {
				t.Errorf("Binary %d of a fault and %q: %#v", op, s, got)
			}
		}
		for _, op := range append(slices.Clone(comparers), api.OpJoin) {
			if got := ops.Binary(op, text(s), fault(api.FaultDiv)); got != fault(api.FaultDiv) {
				t.Errorf("Binary %d of %q and a fault: %#v", op, s, got)
			}
			if got := ops.Binary(op, text(s), num(1, 1)); got.Kind == api.Fault {
				t.Errorf("Binary %d of %q and 1: %#v", op, s, got)
			}
		}
	}
}

// P17.2: of operators that are none, as those with one value, FaultValue.
func TestOtherOperators(t *testing.T) {
	l := []api.Value{{}, num(0, 1), num(2, 1), text("2"), text("a"), truth(true), fault(api.FaultValue), {Kind: 9}}
	for _, op := range others(binaries...) {
		for _, a := range l {
			for _, b := range l {
				if got := ops.Binary(op, a, b); got != fault(api.FaultValue) {
					t.Errorf("Binary %d of %#v and %#v: %#v", op, a, b, got)
				}
			}
		}
	}
}

// P17.5: what is added is taken back by what is taken off.
func TestTakenBack(t *testing.T) {
	tried := 0
	for _, a := range numbers() {
		for _, b := range numbers() {
			x, y := api.Value{Kind: api.Number, Num: a}, api.Value{Kind: api.Number, Num: b}
			sum := ops.Binary(api.OpAdd, x, y)
			if sum.Kind == api.Fault {
				continue
			}
			tried++
			if got := ops.Binary(api.OpSub, sum, y); got != x {
				t.Errorf("%s and %s, without that: %#v", given(a), given(b), got)
			}
		}
	}
	if tried == 0 {
		t.Error("no sum without a fault")
	}
}
