package eval_test

import (
	"math"
	"slices"
	"strings"
	"testing"

	"abacist/api"
	"abacist/eval"
)

var blank = api.Value{}

// n is a whole number from 0 to 255, or below 0 as far.
func n(a int) api.Value {
	r := api.Rat{Den: "\x01"}
	if a != 0 {
		r.Neg, r.Num = a < 0, string([]byte{byte(max(a, -a))})
	}
	return api.Value{Kind: api.Number, Num: r}
}

func text(s string) api.Value { return api.Value{Kind: api.Text, Text: s} }
func truth(b bool) api.Value  { return api.Value{Kind: api.Truth, Truth: b} }
func fault(n int) api.Value   { return api.Value{Kind: api.Fault, Fault: n} }

func cell(sheet, col, row int) api.Cell { return api.Cell{Sheet: sheet, Col: col, Row: row} }

// bad are values that can not be.
func bad() []api.Value {
	half := api.Rat{Num: "\x02", Den: "\x04"}
	return []api.Value{{Kind: -1}, {Kind: 5}, {Kind: api.Number}, {Kind: api.Number, Num: half}, {Text: "a"}, {Truth: true}, {Fault: 1}, {Num: n(1).Num}, {Kind: api.Text, Text: strings.Repeat("a", 201)}, {Kind: api.Text, Text: "\n"}, {Kind: api.Text, Text: "\x7f"}, {Kind: api.Truth, Text: "a"}, {Kind: api.Fault}, {Kind: api.Fault, Fault: 8}, {Kind: api.Fault, Fault: -1}}
}

// good are values that can be, and are not Blank.
func good() []api.Value {
	return []api.Value{n(0), n(1), n(-7), text(""), text("a"), text(strings.Repeat("~", 200)), truth(true), truth(false), fault(1), fault(3), fault(7)}
}

// outside are cells that no scope of so many sheets has.
func outside(sheets int) []api.Cell {
	l := []api.Cell{cell(-1, 1, 1), cell(sheets, 1, 1), cell(sheets+1, 1, 1), cell(math.MinInt, 1, 1), cell(math.MaxInt, 1, 1)}
	for sheet := range sheets {
		for _, at := range [][2]int{{0, 1}, {1, 0}, {53, 1}, {1, 100}, {52, 100}, {53, 99}, {53, 100}, {0, 0}, {-1, -1}, {0, 99}, {52, 0}, {math.MinInt, math.MaxInt}, {1, math.MaxInt}, {math.MaxInt, 1}} {
			l = append(l, cell(sheet, at[0], at[1]))
		}
	}
	return l
}

// corners are a sheet's.
func corners(sheet int) []api.Cell {
	return []api.Cell{cell(sheet, 1, 1), cell(sheet, 52, 1), cell(sheet, 1, 99), cell(sheet, 52, 99)}
}

// made is a scope of some sheets.
func made(t *testing.T, sheets ...string) *eval.Scope {
	t.Helper()
	s, e := eval.New(sheets...)
	if e != api.OK || s == nil {
		t.Fatalf("New of %q: %v, %d", sheets, s, e)
	}
	return s
}

// put puts a value, and asks for it.
func put(t *testing.T, s *eval.Scope, at api.Cell, v api.Value) {
	t.Helper()
	if e := s.Put(at, v); e != api.OK {
		t.Errorf("Put of %#v at %v: %d", v, at, e)
	}
	if got := s.Get(at); got != v {
		t.Errorf("Get at %v: %#v, want %#v", at, got, v)
	}
}

// named checks which sheets a scope has.
func named(t *testing.T, s *eval.Scope, sheets ...string) {
	t.Helper()
	for want, name := range sheets {
		if got, ok := s.Sheet(name); got != want || !ok {
			t.Errorf("Sheet %q of %q: %d, %t", name, sheets, got, ok)
		}
	}
	others := append(wrongNames(), "Other", "a", "A", "sheet_1", "SHEET_1", "Sheet_1", "Sheet_2", "S1_", "s", "S")
	for _, name := range others {
		if got, ok := s.Sheet(name); !slices.Contains(sheets, name) && (got != 0 || ok) {
			t.Errorf("Sheet %q of %q: %d, %t", name, sheets, got, ok)
		}
	}
	if e := s.Put(cell(len(sheets), 1, 1), n(1)); e != api.ErrAddr {
		t.Errorf("Put into sheet %d of %q: %d", len(sheets), sheets, e)
	}
}

// wrongNames are names that no sheet can have.
func wrongNames() []string {
	return []string{"", " ", "1a", "_a", "A1", "a1", "AB123", "ab12", "Zz999", "A0", "TRUE", "False", "fAlSe", "a b", "a!", "a-b", "$A", "é", "\xff", "a\x00", strings.Repeat("a", 13), strings.Repeat("a", 1000)}
}

// P24.1: of nil ErrNil, Blank, 0 and false, and a nil copy.
func TestNil(t *testing.T) {
	var s *eval.Scope
	if e := s.Add("Sheet_1"); e != api.ErrNil {
		t.Errorf("Add: %d", e)
	}
	if e := s.Add(""); e != api.ErrNil {
		t.Errorf("Add of no name: %d", e)
	}
	if got, ok := s.Sheet("Sheet_1"); got != 0 || ok {
		t.Errorf("Sheet: %d, %t", got, ok)
	}
	if e := s.Put(cell(0, 1, 1), n(1)); e != api.ErrNil {
		t.Errorf("Put: %d", e)
	}
	if e := s.Put(cell(-1, 0, 0), bad()[0]); e != api.ErrNil {
		t.Errorf("Put of what can not be: %d", e)
	}
	if got := s.Get(cell(0, 1, 1)); got != blank {
		t.Errorf("Get: %#v", got)
	}
	one := api.Formula{Nodes: []api.Node{{Kind: api.NdNumber, Num: n(1).Num}}}
	for _, f := range []api.Formula{{}, one} {
		if got, e := s.Do(f, cell(0, 1, 1)); got != blank || e != api.ErrNil {
			t.Errorf("Do of %#v: %#v, %d", f, got, e)
		}
	}
	if got := s.Copy(); got != nil {
		t.Errorf("Copy: %#v", got)
	}
}

// P24.1: a scope of no sheets has no cells; it, and one that New did not make, get sheets and values as others do.
func TestNoSheets(t *testing.T) {
	for _, s := range []*eval.Scope{made(t), {}, made(t).Copy(), new(eval.Scope).Copy()} {
		named(t, s)
		for _, at := range append(outside(0), corners(0)...) {
			if e := s.Put(at, n(1)); e != api.ErrAddr {
				t.Errorf("Put at %v: %d", at, e)
			}
			if e := s.Put(at, blank); e != api.ErrAddr {
				t.Errorf("Put of Blank at %v: %d", at, e)
			}
			if got := s.Get(at); got != blank {
				t.Errorf("Get at %v: %#v", at, got)
			}
		}
		if e := s.Add("Sheet_1"); e != api.OK {
			t.Errorf("Add: %d", e)
		}
		named(t, s, "Sheet_1")
		put(t, s, cell(0, 1, 1), blank)
		put(t, s, cell(0, 1, 1), n(3))
		put(t, s, cell(0, 1, 1), blank)
	}
}

// P24.1: Add and New put one sheet behind another one, up to six.
func TestAdd(t *testing.T) {
	names := []string{"Sheet_1", "sheet_1", "SHEET_1", "S", "s", strings.Repeat("z", 12)}
	s := made(t)
	for i, name := range names {
		named(t, s, names[:i]...)
		if e := s.Add(name); e != api.OK {
			t.Errorf("Add of %q behind %q: %d", name, names[:i], e)
		}
		named(t, made(t, names[:i]...), names[:i]...)
	}
	named(t, s, names...)
	for range 3 {
		if e := s.Add("Other"); e != api.ErrFull {
			t.Errorf("Add of a seventh sheet: %d", e)
		}
	}
	named(t, s, names...)
	slices.Reverse(names)
	named(t, made(t, names...), names...)
}

// P24.1: of names that can not be ErrName, of those that are there ErrTwice, of others, where there are six, ErrFull; these in this order, and nothing is changed.
func TestAddErrors(t *testing.T) {
	names := []string{"A", "b", "Cc", "d_", "E_1", "ABC1"}
	for many := range 7 {
		s := made(t, names[:many]...)
		for _, name := range wrongNames() {
			if e := s.Add(name); e != api.ErrName {
				t.Errorf("Add of %q to %q: %d", name, names[:many], e)
			}
		}
		for _, name := range names[:many] {
			if e := s.Add(name); e != api.ErrTwice {
				t.Errorf("Add of %q to %q: %d", name, names[:many], e)
			}
		}
		named(t, s, names[:many]...)
	}
}

// P24.1: New tells the first error of adding the sheets, and no scope beside it.
func TestNewErrors(t *testing.T) {
	six := []string{"A", "b", "Cc", "d_", "E_1", "ABC1"}
	for _, c := range []struct {
		want   api.Errno
		sheets []string
	}{
		{api.ErrName, []string{""}},
		{api.ErrName, []string{"A1"}},
		{api.ErrName, []string{"A", "TRUE"}},
		{api.ErrTwice, []string{"A", "A"}},
		{api.ErrTwice, []string{"A", "b", "A", ""}},
		{api.ErrName, []string{"A", "b", "", "A"}},
		{api.ErrFull, append(slices.Clone(six), "G")},
		{api.ErrFull, append(slices.Clone(six), "G", "")},
		{api.ErrName, append(slices.Clone(six), "", "G")},
		{api.ErrTwice, append(slices.Clone(six), "A")},
		{api.ErrTwice, append(slices.Clone(six), "ABC1", "G")},
	} {
		if s, e := eval.New(c.sheets...); s != nil || e != c.want {
			t.Errorf("New of %q: %v, %d, want %d", c.sheets, s, e, c.want)
		}
	}
}

// P24.1: names that are handed in are neither changed nor kept.
func TestNewKeepsNothing(t *testing.T) {
	names := []string{"B", "A", "C"}
	s := made(t, names...)
	if !slices.Equal(names, []string{"B", "A", "C"}) {
		t.Errorf("names were changed: %q", names)
	}
	names[0], names[2] = "X", "Y"
	named(t, s, "B", "A", "C")
	if _, ok := s.Sheet("X"); ok {
		t.Error("there is a sheet that was written into the names behind New")
	}
}

// P24.1: a cell has the value that was put last, apart from all other cells.
func TestPut(t *testing.T) {
	s := made(t, "A", "B", "C", "D", "E", "F")
	var cells []api.Cell
	for sheet := range 6 {
		cells = append(append(cells, corners(sheet)...), cell(sheet, 2, 3), cell(sheet, 3, 2))
	}
	for _, at := range cells {
		if got := s.Get(at); got != blank {
			t.Errorf("at first %v is %#v", at, got)
		}
	}
	for i, at := range cells {
		put(t, s, at, text(strings.Repeat("x", i)))
	}
	for i, at := range cells {
		if got := s.Get(at); got != text(strings.Repeat("x", i)) {
			t.Errorf("%v is %#v", at, got)
		}
	}
	for _, at := range cells {
		for _, v := range append(good(), blank, n(5), blank, blank) {
			put(t, s, at, v)
		}
		put(t, s, at, n(at.Col+at.Row+at.Sheet))
	}
	for _, at := range cells {
		if got := s.Get(at); got != n(at.Col+at.Row+at.Sheet) {
			t.Errorf("%v is %#v", at, got)
		}
	}
}

// P24.1: of cells that are not there ErrAddr, of values that can not be ErrForm; these in this order, and nothing is changed. Get of no cell is Blank.
func TestPutErrors(t *testing.T) {
	for many := range 7 {
		s := made(t, []string{"A", "B", "C", "D", "E", "F"}[:many]...)
		for sheet := range many {
			for _, at := range corners(sheet) {
				put(t, s, at, n(7))
			}
		}
		for _, at := range outside(many) {
			for _, v := range append(bad(), blank, n(1)) {
				if e := s.Put(at, v); e != api.ErrAddr {
					t.Errorf("Put of %#v at %v: %d", v, at, e)
				}
			}
			if got := s.Get(at); got != blank {
				t.Errorf("Get at %v: %#v", at, got)
			}
		}
		for sheet := range many {
			for _, at := range append(corners(sheet), cell(sheet, 2, 2)) {
				was := s.Get(at)
				for _, v := range bad() {
					if e := s.Put(at, v); e != api.ErrForm {
						t.Errorf("Put of %#v at %v: %d", v, at, e)
					}
				}
				if got := s.Get(at); got != was {
					t.Errorf("%v was %#v and is %#v", at, was, got)
				}
			}
		}
	}
}

// P24.1: a cell of a sheet that is added later is Blank, also where a value was refused there.
func TestAddedSheet(t *testing.T) {
	s := made(t, "A")
	at := cell(1, 1, 1)
	if e := s.Put(at, n(1)); e != api.ErrAddr {
		t.Errorf("Put: %d", e)
	}
	if e := s.Add("B"); e != api.OK || s.Get(at) != blank {
		t.Errorf("Add: %d, and a cell is %#v", e, s.Get(at))
	}
	put(t, s, at, n(1))
}

// P24.1: a copy is alike; what is done with one of both is not seen in the other one.
func TestCopy(t *testing.T) {
	a, b, c, d := cell(0, 1, 1), cell(1, 52, 99), cell(0, 3, 3), cell(1, 4, 4)
	for _, swapped := range []bool{false, true} {
		s := made(t, "A", "B")
		put(t, s, a, n(1))
		put(t, s, b, text("b"))
		other := s.Copy()
		named(t, other, "A", "B")
		for _, at := range []api.Cell{a, b, c, d} {
			if s.Get(at) != other.Get(at) {
				t.Errorf("%v is %#v, in the copy %#v", at, s.Get(at), other.Get(at))
			}
		}
		if swapped {
			s, other = other, s
		}
		put(t, s, a, n(2))
		put(t, s, b, blank)
		put(t, s, c, n(3))
		if e := s.Add("C"); e != api.OK {
			t.Errorf("Add: %d", e)
		}
		put(t, other, d, n(4))
		if e := other.Add("D"); e != api.OK {
			t.Errorf("Add: %d", e)
		}
		named(t, s, "A", "B", "C")
		named(t, other, "A", "B", "D")
		for at, want := range map[api.Cell][2]api.Value{a: {n(2), n(1)}, b: {blank, text("b")}, c: {n(3), blank}, d: {blank, n(4)}} {
			if s.Get(at) != want[0] || other.Get(at) != want[1] {
				t.Errorf("%v is %#v, in the other one %#v, want %#v", at, s.Get(at), other.Get(at), want)
			}
		}
	}
}

// P24.1: a sheet that is added to a copy is none of what it was copied from, nor the other way round, however many there are.
func TestCopyOfSheets(t *testing.T) {
	names := []string{"A", "B", "C", "D", "E"}
	for many := range 6 {
		s := made(t, names[:many]...)
		other := s.Copy()
		if e, e2 := s.Add("Here"), other.Add("There"); e != api.OK || e2 != api.OK {
			t.Errorf("Add: %d, %d", e, e2)
		}
		named(t, s, append(slices.Clone(names[:many]), "Here")...)
		named(t, other, append(slices.Clone(names[:many]), "There")...)
		for _, s := range []*eval.Scope{s, other} {
			_, here := s.Sheet("Here")
			_, there := s.Sheet("There")
			if here == there {
				t.Errorf("of %d sheets: both are added, or none", many)
			}
		}
	}
}

// P24.1: a copy that has sheets alone gets values apart from what it was copied from, and a copy of a copy, too.
func TestCopyOfBlank(t *testing.T) {
	s := made(t, "A")
	l := []*eval.Scope{s, s.Copy(), s.Copy().Copy()}
	for i, s := range l {
		put(t, s, cell(0, 1, 1), n(i))
	}
	for i, s := range l {
		if got := s.Get(cell(0, 1, 1)); got != n(i) {
			t.Errorf("copy %d has %#v", i, got)
		}
	}
}
