package flook_test

import (
	"math"
	"math/big"
	"slices"
	"strings"
	"testing"

	"abacist/api"
	"abacist/flook"
)

var (
	blank = api.Value{}
	here  = api.Cell{Sheet: 2, Col: 5, Row: 9}
)

// number is the number that x is.
func number(x *big.Rat) api.Value {
	return api.Value{Kind: api.Number, Num: api.Rat{Neg: x.Sign() < 0, Num: string(x.Num().Bytes()), Den: string(x.Denom().Bytes())}}
}

func num(a, b int64) api.Value { return number(big.NewRat(a, b)) }
func n(a int) api.Value        { return num(int64(a), 1) }
func text(s string) api.Value  { return api.Value{Kind: api.Text, Text: s} }
func truth(b bool) api.Value   { return api.Value{Kind: api.Truth, Truth: b} }
func fault(n int) api.Value    { return api.Value{Kind: api.Fault, Fault: n} }

// nums are whole numbers.
func nums(l ...int) []api.Value {
	var vs []api.Value
	for _, a := range l {
		vs = append(vs, n(a))
	}
	return vs
}

// single is an argument that is no area; area one that is, of so many columns.
func single(v api.Value) api.Arg { return api.Arg{Vals: []api.Value{v}, Cols: 1} }
func area(cols int, vs ...api.Value) api.Arg {
	return api.Arg{Vals: vs, Cols: cols, Area: true, Col: 3, Row: 4}
}
func column(vs ...api.Value) api.Arg { return area(1, vs...) }
func row(vs ...api.Value) api.Arg    { return area(len(vs), vs...) }

// singles are arguments that are no areas.
func singles(vs ...api.Value) []api.Arg {
	var l []api.Arg
	for _, v := range vs {
		l = append(l, single(v))
	}
	return l
}

// many is an area with more values than one.
func many() api.Arg { return column(n(1), n(1)) }

// answered is a value that is found, as it is answered.
func answered(v api.Value) api.Value {
	if v == blank {
		return n(0)
	}
	return v
}

// table is the chapter's: names in their order, with how many arguments each has at least and at most.
var table = []struct {
	name        string
	least, most int
}{
	{"INDEX", 2, 3}, {"MATCH", 2, 3}, {"VLOOKUP", 3, 4}, {"HLOOKUP", 3, 4}, {"LOOKUP", 2, 3}, {"ROW", 0, 1}, {"COLUMN", 0, 1}, {"ROWS", 1, 1}, {"COLUMNS", 1, 1},
}

// want checks what a function answers.
func want(t *testing.T, answer api.Value, name string, l ...api.Arg) {
	t.Helper()
	if got := flook.Do(name, here, l...); got != answer {
		t.Errorf("%s of %#v: %#v, want %#v", name, l, got, answer)
	}
}

// P22.1: Names are those of the table, in its order, each time anew.
func TestNames(t *testing.T) {
	var names []string
	for _, f := range table {
		names = append(names, f.name)
	}
	for range 2 {
		got := flook.Names()
		if !slices.Equal(got, names) {
			t.Errorf("Names: %q", got)
		}
		for i := range got {
			got[i] = "ABS"
		}
		_ = append(got[:0], "A", "B")
	}
}

// P22.1: of names that are none FaultName, whatever the arguments are.
func TestOtherNames(t *testing.T) {
	for _, name := range []string{"", " ", "index", "Index", "INDEX ", " INDEX", "INDEX(", "INDE", "INDEXX", "LOOK", "XLOOKUP", "COL", "COLS", "CHOOSE", "SUM", "ABS", "IF", "FIND", "ROW\x00", "\xff", "é", strings.Repeat("A", 1000)} {
		for _, l := range [][]api.Arg{nil, {}, singles(n(1)), singles(n(1), n(1)), singles(n(1), n(1), n(1)), singles(fault(1), fault(3)), {{}}, {column(nums(1, 2)...), single(n(1))}, slices.Repeat(singles(n(1)), 21)} {
			want(t, fault(api.FaultName), name, l...)
		}
	}
}

// P22.1: of too few, or too many, arguments FaultValue, whatever they are; of others none, if they fit.
func TestHowMany(t *testing.T) {
	for _, f := range table {
		for many := range 45 {
			few := many < f.least || many > f.most
			for _, a := range []api.Arg{column(n(1)), single(n(1)), single(fault(1)), column(fault(7), n(1)), {}} {
				if got := flook.Do(f.name, here, slices.Repeat([]api.Arg{a}, many)...); few && got != fault(api.FaultValue) {
					t.Errorf("%s of %d arguments %#v: %#v", f.name, many, a, got)
				}
			}
			if got := flook.Do(f.name, here, slices.Repeat([]api.Arg{column(n(1))}, many)...); !few && got.Kind != api.Number {
				t.Errorf("%s of %d arguments that fit: %#v", f.name, many, got)
			}
		}
	}
}

// impossible are arguments that can not be.
func impossible() []api.Arg {
	l := []api.Arg{{}, {Cols: 1}, {Cols: 1, Area: true}, {Vals: []api.Value{}, Cols: 1, Area: true}, {Vals: nums(1)}, {Vals: nums(1), Area: true}, {Vals: nums(1), Cols: -1, Area: true}, {Vals: nums(1), Cols: math.MinInt}, {Vals: nums(1), Cols: 2}, {Vals: nums(1), Cols: math.MaxInt, Area: true}, {Vals: nums(1, 2), Cols: 1}, {Vals: nums(1, 2), Cols: 2}, {Vals: nums(1, 2, 3), Cols: 2, Area: true}, {Vals: nums(1, 2), Cols: 4, Area: true}, column(slices.Repeat(nums(1), 201)...), row(slices.Repeat(nums(1), 400)...)}
	for _, v := range []api.Value{{Kind: -1}, {Kind: 5}, {Kind: math.MaxInt}, {Kind: api.Number}, {Kind: api.Number, Num: api.Rat{Num: "\x06", Den: "\x04"}}, {Text: "1"}, {Fault: 7}, {Truth: true}, fault(0), fault(8), fault(-1), text("a\n"), text(strings.Repeat("1", 201)), {Kind: api.Truth, Fault: 1}, {Kind: api.Fault, Fault: 3, Text: "a"}} {
		l = append(l, single(v), column(v), column(n(1), n(1), v))
	}
	return l
}

// P22.1: an argument that can not be is FaultValue, wherever it is, and whatever the others are.
func TestArgumentsThatCanNotBe(t *testing.T) {
	for _, bad := range impossible() {
		for _, f := range table {
			for many := max(f.least, 1); many <= f.most; many++ {
				for at := range many {
					for _, other := range []api.Arg{single(n(1)), single(fault(1)), area(2, nums(1, 2, 3, 4)...), column(fault(6), n(1)), column(n(1))} {
						l := slices.Repeat([]api.Arg{other}, many)
						l[at] = bad
						want(t, fault(api.FaultValue), f.name, l...)
					}
				}
			}
		}
	}
}

// filled are as many values, all unlike, of all kinds: the second one is Blank, the fourth one a fault.
func filled(many int) []api.Value {
	vs := []api.Value{n(100), blank, text("a"), fault(7), truth(true), truth(false), text("")}
	for i := len(vs); i < many; i++ {
		vs = append(vs, n(100+i))
	}
	return vs[:many]
}

// P22.1: INDEX of all places in and beside areas of one row, of one column, of both and of several of each.
func TestIndex(t *testing.T) {
	for rows := 1; rows <= 5; rows++ {
		for cols := 1; cols <= 5; cols++ {
			vs := filled(rows * cols)
			a := area(cols, vs...)
			value := func(r, c int) api.Value {
				if r < 1 || c < 1 || r > rows || c > cols {
					return fault(api.FaultRef)
				}
				return answered(vs[(r-1)*cols+c-1])
			}
			for r := -2; r <= 7; r++ {
				for c := -2; c <= 7; c++ {
					want(t, value(r, c), "INDEX", a, single(n(r)), single(n(c)))
				}
				if rows == 1 {
					want(t, value(1, r), "INDEX", a, single(n(r)))
				} else {
					want(t, value(r, 1), "INDEX", a, single(n(r)))
				}
			}
		}
	}
}

// P22.1: INDEX of a single value, of greatest areas, and of counts that are read and cut.
func TestIndexOfOthers(t *testing.T) {
	for _, v := range []api.Value{n(7), blank, text("a"), truth(false), fault(3), fault(6)} {
		want(t, answered(v), "INDEX", single(v), single(n(1)))
		want(t, answered(v), "INDEX", single(v), single(n(1)), single(n(1)))
		want(t, fault(api.FaultRef), "INDEX", single(v), single(n(2)))
		want(t, fault(api.FaultRef), "INDEX", single(v), single(n(1)), single(n(0)))
	}
	a := area(2, nums(1, 2, 3, 4, 5, 6)...)
	for _, c := range []struct{ r, c, answer api.Value }{
		{num(5, 2), num(3, 2), n(3)}, {num(19, 10), num(29, 10), n(2)}, {num(1, 2), n(1), fault(3)}, {n(1), num(-1, 2), fault(3)}, {text("3"), truth(true), n(5)}, {text("5/2"), text("2"), n(4)}, {blank, n(1), fault(3)}, {n(1), truth(false), fault(3)}, {n(1000000), n(1), fault(3)}, {n(1), n(-1000000), fault(3)}, {num(2000001, 2), n(1), fault(3)}, {num(-2000001, 2), n(1), fault(3)}, {n(4), n(1), fault(3)}, {n(3), n(2), n(6)}, {n(3), n(3), fault(3)},
	} {
		want(t, c.answer, "INDEX", a, single(c.r), single(c.c))
		want(t, c.answer, "INDEX", a, column(c.r), row(c.c))
	}
	var l []int
	for i := range 200 {
		l = append(l, i+1)
	}
	for _, cols := range []int{1, 2, 8, 100, 200} {
		want(t, n(200), "INDEX", area(cols, nums(l...)...), single(n(200/cols)), single(n(cols)))
	}
}

// noCounts are values that are no counts, beside their faults.
func noCounts() map[api.Value]int {
	l := map[api.Value]int{}
	for _, v := range []api.Value{text(""), text("a"), text("TRUE"), text("1/0"), n(1000001), n(-1000001), num(2000003, 2), num(1<<32, 1), num(1<<32+1, 1), num(math.MaxInt64, 1), num(math.MinInt64, 1), number(new(big.Rat).SetInt(new(big.Int).Add(new(big.Int).Lsh(big.NewInt(1), 64), big.NewInt(1))))} {
		l[v] = api.FaultValue
	}
	for fault := 1; fault <= 7; fault++ {
		l[api.Value{Kind: api.Fault, Fault: fault}] = fault
	}
	return l
}

// P22.1: INDEX: the counts' faults, the first one first, ahead of places that there are not; a's own faults are no matter.
func TestIndexFaults(t *testing.T) {
	for _, a := range []api.Arg{area(2, nums(1, 2, 3, 4)...), column(fault(4), fault(5)), single(fault(4))} {
		for v, wrong := range noCounts() {
			want(t, fault(wrong), "INDEX", a, single(v))
			want(t, fault(wrong), "INDEX", a, column(v), single(n(1)))
			want(t, fault(wrong), "INDEX", a, single(v), single(n(9)))
			want(t, fault(wrong), "INDEX", a, single(n(1)), single(v))
			want(t, fault(wrong), "INDEX", a, single(n(9)), row(v))
			for other := 1; other <= 7; other++ {
				want(t, fault(wrong), "INDEX", a, single(v), single(fault(other)))
				want(t, fault(other), "INDEX", a, single(fault(other)), single(v))
			}
		}
		want(t, fault(api.FaultValue), "INDEX", a, many())
		want(t, fault(api.FaultValue), "INDEX", a, many(), single(fault(1)))
		want(t, fault(api.FaultValue), "INDEX", a, single(n(9)), many())
		want(t, fault(1), "INDEX", a, single(fault(1)), many())
		want(t, fault(api.FaultValue), "INDEX", a, column(fault(1), fault(1)), single(n(1)))
	}
}

// P22.1: ROW and COLUMN: of an area's first cell, also where no cell is; of at, if there is no argument.
func TestRowAndColumn(t *testing.T) {
	for _, c := range []int{1, 2, 52, 99, 100, 0, -1, 1 << 40, math.MaxInt, math.MinInt} {
		for _, r := range []int{1, 7, 99, 0, -5, math.MaxInt, math.MinInt} {
			a := api.Arg{Vals: filled(6), Cols: 2, Area: true, Col: c, Row: r}
			want(t, n(r), "ROW", a)
			want(t, n(c), "COLUMN", a)
			for _, sheet := range []int{0, 5, -1, math.MaxInt} {
				at := api.Cell{Sheet: sheet, Col: c, Row: r}
				if got := flook.Do("ROW", at); got != n(r) {
					t.Errorf("ROW in %v: %#v", at, got)
				}
				if got := flook.Do("COLUMN", at); got != n(c) {
					t.Errorf("COLUMN in %v: %#v", at, got)
				}
			}
			for _, v := range []api.Value{n(1), blank, fault(1), fault(3)} {
				a := api.Arg{Vals: []api.Value{v}, Cols: 1, Col: c, Row: r}
				want(t, fault(api.FaultValue), "ROW", a)
				want(t, fault(api.FaultValue), "COLUMN", a)
				a.Area = true
				want(t, n(r), "ROW", a)
				want(t, n(c), "COLUMN", a)
			}
		}
	}
	want(t, n(9), "ROW")
	want(t, n(5), "COLUMN")
	want(t, n(4), "ROW", many())
	want(t, n(3), "COLUMN", many())
}

// P22.1, P22.3: ROWS and COLUMNS; times each other they are how many values there are.
func TestRowsAndColumns(t *testing.T) {
	for rows := 1; rows <= 200; rows++ {
		for cols := 1; rows*cols <= 200; cols++ {
			a := area(cols, slices.Repeat([]api.Value{fault(1)}, rows*cols)...)
			want(t, n(rows), "ROWS", a)
			want(t, n(cols), "COLUMNS", a)
		}
	}
	for _, v := range filled(7) {
		want(t, n(1), "ROWS", single(v))
		want(t, n(1), "COLUMNS", single(v))
	}
}

// P22.1: what is answered hangs on no cell but of ROW and COLUMN without an argument.
func TestCellDoesNotMatter(t *testing.T) {
	a := []api.Arg{column(n(1)), column(n(1)), column(n(1)), column(n(1))}
	for _, f := range table {
		for many := max(f.least, 1); many <= f.most; many++ {
			for _, at := range []api.Cell{{}, {Sheet: -1, Col: -1, Row: -1}, {Col: 3, Row: 4}} {
				if got := flook.Do(f.name, at, a[:many]...); got != flook.Do(f.name, here, a[:many]...) {
					t.Errorf("%s in %v: %#v", f.name, at, got)
				}
			}
		}
	}
}

// P22.1: the arguments and their values stay as they were.
func TestArgumentsStay(t *testing.T) {
	for _, f := range table {
		made := func() []api.Arg {
			return []api.Arg{single(n(2)), area(2, nums(1, 2, 3, 4)...), single(n(2)), single(truth(false))}
		}
		for many := f.least; many <= f.most; many++ {
			l, was := made(), made()
			flook.Do(f.name, here, l[:many]...)
			for i := range l {
				if !slices.Equal(l[i].Vals, was[i].Vals) || l[i].Cols != was[i].Cols || l[i].Area != was[i].Area || l[i].Col != was[i].Col || l[i].Row != was[i].Row {
					t.Errorf("%s changes its arguments: %#v", f.name, l[i])
				}
			}
		}
	}
}
