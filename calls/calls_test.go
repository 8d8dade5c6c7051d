package calls_test

import (
	"math"
	"math/big"
	"slices"
	"strings"
	"testing"

	"abacist/api"
	"abacist/calls"
)

var blank = api.Value{}

// of is an argument of so many Blanks.
func of(many, cols int, area bool) api.Arg {
	return api.Arg{Vals: make([]api.Value, many), Cols: cols, Area: area}
}

// some are functions, of which the first one of a name counts.
var some = []calls.Function{{Name: "B", Least: 1, Most: 2}, {Name: "A", Least: 0, Most: 0}, {Name: "C", Least: 3, Most: 20}, {Name: "B", Least: 0, Most: 20}}

// Names are in the functions' order, each time anew.
func TestNames(t *testing.T) {
	for range 2 {
		got := calls.Names(some)
		if !slices.Equal(got, []string{"B", "A", "C", "B"}) {
			t.Errorf("Names: %q", got)
		}
		got[0] = "D"
	}
	if got := calls.Names(nil); len(got) != 0 {
		t.Errorf("Names of none: %q", got)
	}
}

// Of names that are none FaultName, of other numbers of arguments FaultValue.
func TestFault(t *testing.T) {
	for name, ends := range map[string][2]int{"A": {0, 0}, "B": {1, 2}, "C": {3, 20}, "": {-1, -1}, "a": {-1, -1}, "AB": {-1, -1}} {
		for n := range 25 {
			want := 0
			switch {
			case ends[1] < 0:
				want = api.FaultName
			case n < ends[0] || n > ends[1]:
				want = api.FaultValue
			}
			l := slices.Repeat([]api.Arg{of(1, 1, false)}, n)
			if got := calls.Fault(some, name, l); got != want {
				t.Errorf("%q of %d arguments: %d", name, n, got)
			}
			for at := range l {
				bad := slices.Clone(l)
				bad[at] = api.Arg{}
				if got := calls.Fault(some, name, bad); got != max(want, api.FaultValue) {
					t.Errorf("%q of %d arguments, of which one can not be: %d", name, n, got)
				}
			}
		}
	}
	if got := calls.Fault(nil, "A", nil); got != api.FaultName {
		t.Errorf("A of no functions: %d", got)
	}
}

// An argument can be, if its values are 1 to MaxArea, in full rows, and one alone, if it is no area.
func TestRight(t *testing.T) {
	for many := range 405 {
		for _, cols := range []int{math.MinInt, -2, -1, 0, 1, 2, 3, 7, 20, 100, 199, 200, 201, 400, math.MaxInt} {
			full := many > 0 && many <= 200 && cols > 0 && many%max(cols, 1) == 0
			if got := calls.Right(of(many, cols, true)); got != full {
				t.Errorf("area of %d values in %d columns: %t", many, cols, got)
			}
			if got := calls.Right(of(many, cols, false)); got != (full && many == 1) {
				t.Errorf("%d values in %d columns: %t", many, cols, got)
			}
		}
	}
	for _, place := range [][2]int{{0, 0}, {-1, -1}, {math.MaxInt, math.MinInt}} {
		if !calls.Right(api.Arg{Vals: []api.Value{blank}, Cols: 1, Area: true, Col: place[0], Row: place[1]}) {
			t.Errorf("an area's place is asked: %v", place)
		}
	}
}

// All values of an argument must be such that can be.
func TestRightValues(t *testing.T) {
	for _, bad := range []api.Value{{Kind: -1}, {Kind: 5}, {Kind: api.Number}, {Text: "a"}, {Kind: api.Text, Text: strings.Repeat("a", 201)}, {Kind: api.Text, Text: "\n"}, {Kind: api.Fault}, {Kind: api.Fault, Fault: 8}} {
		for at := range 6 {
			a := of(6, 3, true)
			a.Vals[at] = bad
			if calls.Right(a) {
				t.Errorf("value %d is %#v, and can be", at, bad)
			}
		}
		if calls.Right(api.Arg{Vals: []api.Value{bad}, Cols: 1}) {
			t.Errorf("%#v can be", bad)
		}
	}
	for fault := 1; fault <= 7; fault++ {
		if !calls.Right(api.Arg{Vals: []api.Value{{Kind: api.Fault, Fault: fault}}, Cols: 1}) {
			t.Errorf("fault %d can not be", fault)
		}
	}
}

// One is the value of an argument with one.
func TestOne(t *testing.T) {
	for _, area := range []bool{true, false} {
		v := api.Value{Kind: api.Text, Text: "a"}
		if got, ok := calls.One(api.Arg{Vals: []api.Value{v}, Cols: 1, Area: area}); !ok || got != v {
			t.Errorf("One: %#v %t", got, ok)
		}
	}
	for _, many := range []int{0, 2, 3, 200} {
		a := of(many, 1, true)
		for i := range a.Vals {
			a.Vals[i] = api.Value{Kind: api.Truth, Truth: true}
		}
		if got, ok := calls.One(a); ok || got != blank {
			t.Errorf("One of %d: %#v %t", many, got, ok)
		}
	}
}

// Many tells what Fault tells of the name and the number alone.
func TestMany(t *testing.T) {
	for name, ends := range map[string][2]int{"A": {0, 0}, "B": {1, 2}, "C": {3, 20}, "D": {-1, -1}} {
		for n := -1; n < 25; n++ {
			want := 0
			switch {
			case ends[1] < 0:
				want = api.FaultName
			case n < ends[0] || n > ends[1]:
				want = api.FaultValue
			}
			if got := calls.Many(some, name, n); got != want {
				t.Errorf("%q of %d: %d", name, n, got)
			}
		}
	}
}

// Value is the value of an argument with one, also a fault; FaultValue of more.
func TestValue(t *testing.T) {
	for _, v := range []api.Value{blank, {Kind: api.Text, Text: "a"}, {Kind: api.Truth}, {Kind: api.Fault, Fault: 6}} {
		for _, area := range []bool{true, false} {
			if got := calls.Value(api.Arg{Vals: []api.Value{v}, Cols: 1, Area: area}); got != v {
				t.Errorf("Value: %#v, want %#v", got, v)
			}
		}
	}
	for _, many := range []int{2, 3, 200} {
		if got := calls.Value(of(many, 1, true)); got != (api.Value{Kind: api.Fault, Fault: api.FaultValue}) {
			t.Errorf("Value of %d: %#v", many, got)
		}
	}
}

// number is a by b as a value.
func number(a, b int64) api.Value {
	x := big.NewRat(a, b)
	return api.Value{Kind: api.Number, Num: api.Rat{Neg: x.Sign() < 0, Num: string(x.Num().Bytes()), Den: string(x.Denom().Bytes())}}
}

// Count is the whole part of a number from -1000000 to 1000000; of others a fault.
func TestCount(t *testing.T) {
	yes, letters, half := api.Value{Kind: api.Truth, Truth: true}, api.Value{Kind: api.Text, Text: "a"}, api.Value{Kind: api.Text, Text: "-7/2"}
	for _, c := range []struct {
		v        api.Value
		n, fault int
	}{
		{number(0, 1), 0, 0}, {number(7, 1), 7, 0}, {number(-7, 1), -7, 0}, {number(1, 2), 0, 0}, {number(-1, 2), 0, 0}, {number(19, 10), 1, 0}, {number(-19, 10), -1, 0}, {blank, 0, 0}, {yes, 1, 0}, {half, -3, 0},
		{number(1000000, 1), 1000000, 0}, {number(2000001, 2), 1000000, 0}, {number(1000001, 1), 0, 2}, {number(-1000000, 1), -1000000, 0}, {number(-2000001, 2), -1000000, 0}, {number(-1000001, 1), 0, 2},
		{number(1<<32, 1), 0, 2}, {number(1<<32+1, 1), 0, 2}, {number(math.MaxInt64, 1), 0, 2}, {number(math.MinInt64, 1), 0, 2}, {api.Value{Kind: api.Number, Num: api.Rat{Num: "\x01\x00\x00\x00\x00\x00\x00\x00\x01", Den: "\x01"}}, 0, 2},
		{letters, 0, 2}, {api.Value{Kind: 9}, 0, 2}, {api.Value{Kind: api.Fault, Fault: 1}, 0, 1}, {api.Value{Kind: api.Fault, Fault: 7}, 0, 7},
	} {
		if n, fault := calls.Count(c.v); n != c.n || fault != c.fault {
			t.Errorf("Count of %#v: %d %d, want %d %d", c.v, n, fault, c.n, c.fault)
		}
	}
}
