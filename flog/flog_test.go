package flog_test

import (
	"math"
	"math/big"
	"slices"
	"strings"
	"testing"

	"abacist/api"
	"abacist/flog"
)

var blank = api.Value{}

// number is the number that x is.
func number(x *big.Rat) api.Value {
	return api.Value{Kind: api.Number, Num: api.Rat{Neg: x.Sign() < 0, Num: string(x.Num().Bytes()), Den: string(x.Denom().Bytes())}}
}

func num(a, b int64) api.Value { return number(big.NewRat(a, b)) }
func text(s string) api.Value  { return api.Value{Kind: api.Text, Text: s} }
func truth(b bool) api.Value   { return api.Value{Kind: api.Truth, Truth: b} }
func fault(n int) api.Value    { return api.Value{Kind: api.Fault, Fault: n} }

// great is a whole number of so many bits, with n added.
func great(bits uint, n int64) api.Value {
	x := new(big.Int).Lsh(big.NewInt(1), bits)
	return number(new(big.Rat).SetInt(x.Add(x, big.NewInt(n))))
}

// single is an argument that is no area; area one that is.
func single(v api.Value) api.Arg   { return api.Arg{Vals: []api.Value{v}, Cols: 1} }
func area(vs ...api.Value) api.Arg { return api.Arg{Vals: vs, Cols: 1, Area: true, Col: 2, Row: 3} }

// singles are arguments that are no areas.
func singles(vs ...api.Value) []api.Arg {
	var l []api.Arg
	for _, v := range vs {
		l = append(l, single(v))
	}
	return l
}

// each is the values as arguments, all of them as areas, or none.
func each(areas bool, vs ...api.Value) []api.Arg {
	l := singles(vs...)
	for i := range l {
		l[i].Area = areas
	}
	return l
}

// table is the chapter's: names in their order, with how many arguments each has at least and at most.
var table = []struct {
	name        string
	least, most int
}{
	{"IF", 2, 3}, {"IFERROR", 2, 2}, {"IFNA", 2, 2}, {"AND", 1, 20}, {"OR", 1, 20}, {"XOR", 1, 20}, {"NOT", 1, 1}, {"TRUE", 0, 0}, {"FALSE", 0, 0}, {"NA", 0, 0}, {"ISBLANK", 1, 1}, {"ISNUMBER", 1, 1}, {"ISTEXT", 1, 1}, {"ISLOGICAL", 1, 1}, {"ISERROR", 1, 1}, {"ISERR", 1, 1}, {"ISNA", 1, 1}, {"N", 1, 1}, {"T", 1, 1}, {"TYPE", 1, 1}, {"CHOOSE", 2, 20}, {"SWITCH", 3, 20},
}

// samples are values of all kinds.
func samples() []api.Value {
	l := []api.Value{blank, num(0, 1), num(1, 1), num(-1, 2), num(1, 3), great(255, 7), text(""), text("a"), text("1"), text("0"), text("TRUE"), text("FALSE"), text("true"), text("#N/A"), truth(true), truth(false)}
	for n := 1; n <= 7; n++ {
		l = append(l, fault(n))
	}
	return l
}

// many is an area of more values than one.
func many() api.Arg { return area(num(1, 1), num(1, 1)) }

// want checks what a function answers.
func want(t *testing.T, answer api.Value, name string, l ...api.Arg) {
	t.Helper()
	if got := flog.Do(name, l...); got != answer {
		t.Errorf("%s of %#v: %#v, want %#v", name, l, got, answer)
	}
}

// P20.1: Names are those of the table, in its order, each time anew.
func TestNames(t *testing.T) {
	var names []string
	for _, f := range table {
		names = append(names, f.name)
	}
	for range 2 {
		got := flog.Names()
		if !slices.Equal(got, names) {
			t.Errorf("Names: %q", got)
		}
		for i := range got {
			got[i] = "ABS"
		}
		_ = append(got[:0], "A", "B")
	}
	for _, f := range table {
		if got := flog.Do(f.name, slices.Repeat(singles(num(1, 1)), f.least)...); got == fault(api.FaultName) || got == fault(api.FaultValue) {
			t.Errorf("%s: %#v", f.name, got)
		}
	}
}

// P20.1: of names that are none FaultName, whatever the arguments are.
func TestOtherNames(t *testing.T) {
	for _, name := range []string{"", " ", "if", "If", "IF ", " IF", "IF(", "I", "IFS", "IFERR", "ANDS", "TRUE()", "true", "NA()", "#N/A", "IS", "ISEVEN", "ISFAULT", "SUM", "ABS", "LEN", "INDEX", "TYPES", "IF\x00", "\xff", "é", strings.Repeat("A", 1000)} {
		for _, l := range [][]api.Arg{nil, {}, singles(num(1, 1)), singles(fault(1), fault(3)), {{}}, {many(), many()}, slices.Repeat(singles(num(1, 1)), 3), slices.Repeat(singles(num(1, 1)), 21)} {
			want(t, fault(api.FaultName), name, l...)
		}
	}
}

// P20.1: of too few, or too many, arguments FaultValue, whatever they are.
func TestHowMany(t *testing.T) {
	for _, f := range table {
		for n := range 45 {
			for _, a := range []api.Arg{single(truth(true)), single(fault(1)), area(fault(7)), many(), {}} {
				got := flog.Do(f.name, slices.Repeat([]api.Arg{a}, n)...)
				switch {
				case n < f.least || n > f.most:
					if got != fault(api.FaultValue) {
						t.Errorf("%s of %d arguments: %#v", f.name, n, got)
					}
				case len(a.Vals) == 1 && got == fault(api.FaultValue):
					t.Errorf("%s of %d arguments %#v: %#v", f.name, n, a, got)
				}
			}
		}
	}
}

// impossible are arguments that can not be.
func impossible() []api.Arg {
	yes := truth(true)
	l := []api.Arg{{}, {Cols: 1}, {Cols: 1, Area: true}, {Vals: []api.Value{yes}}, {Vals: []api.Value{yes}, Cols: -1, Area: true}, {Vals: []api.Value{yes}, Cols: math.MinInt}, {Vals: []api.Value{yes}, Cols: 2}, {Vals: []api.Value{yes}, Cols: math.MaxInt, Area: true}, {Vals: []api.Value{yes, yes}, Cols: 1}, {Vals: []api.Value{yes, yes}, Cols: 2}, {Vals: []api.Value{yes, yes, yes}, Cols: 2, Area: true}, area(slices.Repeat([]api.Value{yes}, 201)...)}
	for _, v := range []api.Value{{Kind: -1}, {Kind: 5}, {Kind: math.MaxInt}, {Kind: api.Number}, {Kind: api.Number, Num: api.Rat{Num: "\x06", Den: "\x04"}}, {Text: "1"}, {Fault: 7}, {Truth: true}, fault(0), fault(8), fault(-1), text("a\n"), text(strings.Repeat("1", 201)), {Kind: api.Truth, Fault: 1}, {Kind: api.Fault, Fault: 6, Text: "a"}} {
		l = append(l, single(v), area(v), area(yes, yes, v))
	}
	return l
}

// P20.1: an argument that can not be is FaultValue, wherever it is, and whatever the others are: also one that is not asked for.
func TestArgumentsThatCanNotBe(t *testing.T) {
	for _, bad := range impossible() {
		for _, f := range table {
			for n := f.least; n <= f.most; n += 1 + f.most/10 {
				for at := range n {
					for _, other := range []api.Arg{single(truth(true)), single(fault(1)), area(truth(false)), single(text("a"))} {
						l := slices.Repeat([]api.Arg{other}, n)
						l[at] = bad
						want(t, fault(api.FaultValue), f.name, l...)
					}
				}
			}
		}
	}
}

// asTruth is what counts as a truth, or the fault beside it.
func asTruth(v api.Value) (bool, int) {
	switch v {
	case text("TRUE"), truth(true):
		return true, 0
	case text("FALSE"), truth(false), blank, num(0, 1):
		return false, 0
	}
	switch v.Kind {
	case api.Number:
		return true, 0
	case api.Text:
		return false, api.FaultValue
	}
	return false, v.Fault
}

// P20.1: IF: a truth chooses; its fault, or one of an area of more values, is the answer.
func TestIf(t *testing.T) {
	a, b := num(7, 1), text("b")
	for _, areas := range []bool{true, false} {
		for _, v := range samples() {
			answer, short := a, a
			yes, wrong := asTruth(v)
			switch {
			case wrong != 0:
				answer, short = fault(wrong), fault(wrong)
			case !yes:
				answer, short = b, truth(false)
			}
			want(t, answer, "IF", each(areas, v, a, b)...)
			want(t, short, "IF", each(areas, v, a)...)
		}
		for _, v := range samples() {
			want(t, v, "IF", each(areas, num(2, 1), v, b)...)
			want(t, v, "IF", each(areas, num(2, 1), v)...)
			want(t, v, "IF", each(areas, blank, a, v)...)
			want(t, v, "IF", each(areas, truth(true), v, fault(3))...)
			want(t, v, "IF", each(areas, truth(false), fault(3), v)...)
		}
	}
	want(t, fault(api.FaultValue), "IF", many(), single(a), single(b))
	want(t, fault(api.FaultValue), "IF", single(truth(true)), many(), single(b))
	want(t, fault(api.FaultValue), "IF", single(truth(false)), single(a), many())
	want(t, a, "IF", single(truth(true)), single(a), many())
	want(t, b, "IF", single(truth(false)), many(), single(b))
	want(t, truth(false), "IF", single(truth(false)), many())
}

// P20.1, P20.3: IFERROR and IFNA: another value in place of faults, or of one.
func TestInstead(t *testing.T) {
	for _, areas := range []bool{true, false} {
		for _, v := range samples() {
			for _, other := range samples() {
				whenFault, whenNA := v, v
				if v.Kind == api.Fault {
					whenFault = other
				}
				if v == fault(api.FaultNA) {
					whenNA = other
				}
				want(t, whenFault, "IFERROR", each(areas, v, other)...)
				want(t, whenNA, "IFNA", each(areas, v, other)...)
				if got := flog.Do("IFERROR", each(areas, v, other)...); other.Kind != api.Fault && got.Kind == api.Fault {
					t.Errorf("IFERROR of %#v and %#v: %#v", v, other, got)
				}
			}
		}
	}
	for _, other := range samples() {
		want(t, other, "IFERROR", many(), single(other))
		want(t, fault(api.FaultValue), "IFNA", many(), single(other))
	}
	want(t, fault(api.FaultValue), "IFERROR", single(fault(1)), many())
	want(t, fault(api.FaultValue), "IFNA", single(fault(6)), many())
	want(t, text("a"), "IFERROR", single(text("a")), many())
	want(t, fault(1), "IFNA", single(fault(1)), many())
}

// P20.1: NOT.
func TestNot(t *testing.T) {
	for _, v := range samples() {
		answer := fault(api.FaultValue)
		if yes, wrong := asTruth(v); wrong == 0 {
			answer = truth(!yes)
		} else {
			answer = fault(wrong)
		}
		want(t, answer, "NOT", single(v))
		want(t, answer, "NOT", area(v))
	}
	want(t, fault(api.FaultValue), "NOT", many())
}

// P20.1: TRUE, FALSE and NA.
func TestAlone(t *testing.T) {
	want(t, truth(true), "TRUE")
	want(t, truth(false), "FALSE")
	want(t, fault(api.FaultNA), "NA")
}

// P20.1: what a value is.
func TestKinds(t *testing.T) {
	for _, v := range samples() {
		bad := v.Kind == api.Fault
		number, words, kind := num(0, 1), text(""), num(1, 1)
		switch v.Kind {
		case api.Number:
			number = v
		case api.Text:
			words, kind = v, num(2, 1)
		case api.Truth:
			number, kind = num(0, 1), num(4, 1)
			if v.Truth {
				number = num(1, 1)
			}
		case api.Fault:
			number, words, kind = v, v, num(16, 1)
		}
		for _, a := range []api.Arg{single(v), area(v)} {
			want(t, truth(v == blank), "ISBLANK", a)
			want(t, truth(v.Kind == api.Number), "ISNUMBER", a)
			want(t, truth(v.Kind == api.Text), "ISTEXT", a)
			want(t, truth(v.Kind == api.Truth), "ISLOGICAL", a)
			want(t, truth(bad), "ISERROR", a)
			want(t, truth(bad && v.Fault != 6), "ISERR", a)
			want(t, truth(bad && v.Fault == 6), "ISNA", a)
			want(t, number, "N", a)
			want(t, words, "T", a)
			want(t, kind, "TYPE", a)
		}
	}
}

// P20.1: an area of more values than one is as FaultValue, also if one of its values is another fault.
func TestKindsOfMany(t *testing.T) {
	for _, a := range []api.Arg{many(), area(blank, blank), area(text("a"), text("b")), area(fault(6), fault(6)), area(slices.Repeat([]api.Value{num(1, 1)}, 200)...)} {
		for name, answer := range map[string]api.Value{"ISBLANK": truth(false), "ISNUMBER": truth(false), "ISTEXT": truth(false), "ISLOGICAL": truth(false), "ISERROR": truth(true), "ISERR": truth(true), "ISNA": truth(false), "N": fault(2), "T": fault(2), "TYPE": num(16, 1), "NOT": fault(2)} {
			want(t, answer, name, a)
		}
	}
}

// P20.1: CHOOSE: places at their ends and past them, whole or not.
func TestChoose(t *testing.T) {
	for n := 1; n <= 19; n++ {
		l := singles(num(0, 1))
		for i := range n {
			l = append(l, single(num(int64(100+i), 1)))
		}
		for k := int64(-1); k <= 21; k++ {
			answer := fault(api.FaultValue)
			if k >= 1 && k <= int64(n) {
				answer = num(99+k, 1)
			}
			l[0] = single(num(k, 1))
			want(t, answer, "CHOOSE", l...)
			l[0] = area(num(k, 1))
			want(t, answer, "CHOOSE", l...)
		}
	}
	a, b := text("a"), text("b")
	for _, c := range []struct{ v, answer api.Value }{
		{num(2, 1), b}, {num(3, 2), a}, {num(299, 100), b}, {num(9, 10), fault(2)}, {num(-3, 2), fault(2)}, {num(3, 1), fault(2)}, {blank, fault(2)}, {truth(false), fault(2)}, {truth(true), a}, {text("2"), b}, {text("5/2"), b}, {text("a"), fault(2)}, {text(""), fault(2)}, {text("TRUE"), fault(2)}, {num(1<<32+1, 1), fault(2)}, {num(math.MaxInt64, 1), fault(2)}, {num(math.MinInt64, 1), fault(2)}, {great(64, 1), fault(2)}, {great(64, 2), fault(2)}, {great(255, 1), fault(2)}, {fault(1), fault(1)}, {fault(6), fault(6)},
	} {
		want(t, c.answer, "CHOOSE", singles(c.v, a, b)...)
		want(t, c.answer, "CHOOSE", area(c.v), area(a), area(b))
	}
	for _, v := range samples() {
		want(t, v, "CHOOSE", singles(num(2, 1), fault(3), v, fault(3))...)
	}
	want(t, fault(api.FaultValue), "CHOOSE", many(), single(a), single(b))
	want(t, fault(api.FaultValue), "CHOOSE", single(num(2, 1)), single(a), many())
	want(t, b, "CHOOSE", single(num(2, 1)), many(), single(b))
}

// P20.1: SWITCH: the first pair whose first one is equal, or has a fault; what stands alone behind the pairs; else FaultNA.
func TestSwitch(t *testing.T) {
	a, b, c := text("a"), text("b"), text("c")
	one, two, three := num(1, 1), num(2, 1), num(3, 1)
	for _, s := range []struct {
		l      []api.Value
		answer api.Value
	}{
		{[]api.Value{three, one, a, three, b}, b}, {[]api.Value{one, one, a, three, b}, a}, {[]api.Value{two, one, a, three, b}, fault(6)}, {[]api.Value{two, one, a, three, b, c}, c}, {[]api.Value{two, two, a, two, b, c}, a}, {[]api.Value{three, one, a, three, b, c}, b}, {[]api.Value{one, one, a}, a}, {[]api.Value{two, one, a}, fault(6)}, {[]api.Value{two, one, a, b}, b}, {[]api.Value{two, one, a, two}, two},
		{[]api.Value{two, fault(3), a, two, b}, fault(3)}, {[]api.Value{two, two, b, fault(3), a}, b}, {[]api.Value{two, one, fault(3), two, b}, b}, {[]api.Value{two, two, fault(3), one, b}, fault(3)}, {[]api.Value{two, one, a, fault(1), b, fault(4), c}, fault(1)}, {[]api.Value{two, one, a, fault(3)}, fault(3)}, {[]api.Value{fault(5), fault(3), a}, fault(5)}, {[]api.Value{fault(5), fault(5), a, b}, fault(5)}, {[]api.Value{fault(6), one, a, b}, fault(6)},
		{[]api.Value{text("1"), one, a, text("1"), b}, b}, {[]api.Value{truth(true), one, a, text("TRUE"), b, truth(true), c}, c}, {[]api.Value{text("A"), a, b, text("A"), c}, c}, {[]api.Value{num(2, 4), num(1, 2), a}, a},
		// A Blank is equal to each kind's first value.
		{[]api.Value{blank, one, a, num(0, 1), b}, b}, {[]api.Value{blank, a, a, text(""), b}, b}, {[]api.Value{blank, truth(true), a, truth(false), b}, b}, {[]api.Value{blank, blank, a}, a}, {[]api.Value{num(0, 1), blank, a}, a}, {[]api.Value{text(""), blank, a}, a}, {[]api.Value{truth(false), blank, a}, a}, {[]api.Value{one, blank, a, b}, b}, {[]api.Value{one, one, blank}, blank}, {[]api.Value{one, two, a, blank}, blank},
	} {
		want(t, s.answer, "SWITCH", each(false, s.l...)...)
		want(t, s.answer, "SWITCH", each(true, s.l...)...)
	}
	want(t, fault(api.FaultValue), "SWITCH", many(), single(one), single(a), single(b))
	want(t, fault(api.FaultValue), "SWITCH", single(two), many(), single(a), single(two), single(b))
	want(t, fault(api.FaultValue), "SWITCH", single(one), single(one), many())
	want(t, fault(api.FaultValue), "SWITCH", single(two), single(one), single(a), many())
	want(t, b, "SWITCH", single(two), single(one), many(), single(two), single(b))
	want(t, a, "SWITCH", single(two), single(two), single(a), many(), many(), many())
}

// P20.1: SWITCH of as many pairs as there can be.
func TestManyPairs(t *testing.T) {
	for n := 3; n <= 20; n++ {
		l := singles(num(0, 1))
		for i := 1; i < n; i++ {
			l = append(l, single(num(int64(i), 1)))
		}
		for v := int64(0); v <= 21; v++ {
			answer := fault(api.FaultNA)
			switch {
			case v%2 == 1 && v < int64(n)-1:
				answer = num(v+1, 1)
			case n%2 == 0:
				answer = num(int64(n)-1, 1)
			}
			l[0] = single(num(v, 1))
			want(t, answer, "SWITCH", l...)
		}
	}
}
