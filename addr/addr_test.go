package addr_test

import (
	"math"
	"strconv"
	"strings"
	"testing"

	"abacist/addr"
	"abacist/api"
)

// beyond are numbers that no column, and no row, has.
var beyond = []int{0, -1, 100, 256, 1000, -52, math.MaxInt, math.MinInt}

// columns are all columns' letters, from the first one on.
func columns() []string {
	var l []string
	for _, ahead := range []string{"", "A"} {
		for b := byte('A'); b <= 'Z'; b++ {
			l = append(l, ahead+string(rune(b)))
		}
	}
	return l
}

// P10.1: In.
func TestIn(t *testing.T) {
	for col := -2; col <= 60; col++ {
		for row := -2; row <= 110; row++ {
			want := col > 0 && col < 53 && row > 0 && row < 100
			if addr.In(col, row) != want {
				t.Errorf("In of %d and %d: %v", col, row, !want)
			}
		}
	}
	for _, n := range beyond {
		if addr.In(n, 1) || addr.In(1, n) || addr.In(n, n) {
			t.Errorf("In of %d", n)
		}
	}
}

// P10.1: Col and ColOf.
func TestColumns(t *testing.T) {
	for i, letters := range columns() {
		if got := addr.Col(i + 1); got != letters {
			t.Errorf("Col of %d: %q", i+1, got)
		}
		if n, ok := addr.ColOf(letters); n != i+1 || !ok {
			t.Errorf("ColOf of %s: %d %v", letters, n, ok)
		}
	}
	for _, n := range append(beyond, 53, 54, 78, 79) {
		if got := addr.Col(n); got != "" {
			t.Errorf("Col of %d: %q", n, got)
		}
	}
	for _, s := range []string{"", "BA", "ZZ", "AAA", "a", "z", "aA", "Aa", "1", "A1", "@", "[", "A@", "A[", " A", "A ", "$A", "É", "\xff", strings.Repeat("A", 100_000)} {
		if n, ok := addr.ColOf(s); n != 0 || ok {
			t.Errorf("ColOf of %.20q: %d %v", s, n, ok)
		}
	}
}

// P10.1: Text; P10.4: Parse of Text is the cell.
func TestTextAndBack(t *testing.T) {
	for i, letters := range columns() {
		for row := 1; row <= 99; row++ {
			s := addr.Text(i+1, row)
			if s != letters+strconv.Itoa(row) {
				t.Errorf("Text of %d and %d: %q", i+1, row, s)
			}
			if col, got, e := addr.Parse(s); col != i+1 || got != row || e != api.OK {
				t.Errorf("Parse of %s: %d %d %d", s, col, got, e)
			}
		}
	}
	for _, n := range append(beyond, 53) {
		if got := addr.Text(n, 1); got != "" {
			t.Errorf("Text of %d and 1: %q", n, got)
		}
	}
	for _, n := range beyond {
		if got := addr.Text(1, n); got != "" {
			t.Errorf("Text of 1 and %d: %q", n, got)
		}
	}
}

// P10.2: what Parse refuses, ErrText first.
func TestParseRefuses(t *testing.T) {
	for _, s := range []string{"A100", "A999", "BA1", "AZ100", "ZZ99", "ZZ999", "BA99", "AA200", "B100"} {
		if col, row, e := addr.Parse(s); col != 0 || row != 0 || e != api.ErrAddr {
			t.Errorf("Parse of %s: %d %d %d", s, col, row, e)
		}
	}
	for _, s := range []string{
		"", "A", "AA", "1", "12", "A0", "A00", "A01", "A001", "A012", "BA0", "AA01", "A1000", "A0100", "AAA1", "AAA100", "BAA1", "AAAA1",
		"a1", "aA1", "Aa1", "ab12", "A1 ", " A1", "A 1", "A1A", "A1B1", "A1:B2", "1A", "A-1", "A+1", "A1.5", "$A1", "A$1", "$A$1", "S!A1", "A1!", "@1", "[1", "A/", "A:", "A1/", "A1:", "É1", "\xff1", "A\xff", "A1\x00", "\x001", "A١", "Ａ1",
		strings.Repeat("A", 100_000) + "1", "A" + strings.Repeat("1", 100_000), "A" + strings.Repeat("0", 100_000), "A18446744073709551617",
	} {
		if col, row, e := addr.Parse(s); col != 0 || row != 0 || e != api.ErrText {
			t.Errorf("Parse of %.20q: %d %d %d", s, col, row, e)
		}
	}
}

// edges are numbers in the grid, and some around it.
var edges = []int{math.MinInt, -1, 0, 1, 2, 3, 5, 20, 40, 51, 52, 53, 98, 99, 100, 101, math.MaxInt}

// areas are areas of all corners of which the numbers are edges.
func areas() []addr.Area {
	var l []addr.Area
	for _, col1 := range edges {
		for _, row1 := range edges {
			for _, col2 := range edges {
				for _, row2 := range edges {
					l = append(l, addr.Area{Col1: col1, Row1: row1, Col2: col2, Row2: row2})
				}
			}
		}
	}
	return l
}

// normed is what Norm tells, found in another way: by the cells that lie between both corners.
func normed(a addr.Area) (addr.Area, int, api.Errno) {
	for _, n := range []int{a.Col1, a.Col2} {
		if n < 1 || n > 52 {
			return addr.Area{}, 0, api.ErrAddr
		}
	}
	for _, n := range []int{a.Row1, a.Row2} {
		if n < 1 || n > 99 {
			return addr.Area{}, 0, api.ErrAddr
		}
	}
	if a.Col1 > a.Col2 {
		a.Col1, a.Col2 = a.Col2, a.Col1
	}
	if a.Row1 > a.Row2 {
		a.Row1, a.Row2 = a.Row2, a.Row1
	}
	size := 0
	for col := a.Col1; col <= a.Col2; col++ {
		for row := a.Row1; row <= a.Row2; row++ {
			size++
		}
	}
	if size > 200 {
		return addr.Area{}, 0, api.ErrArea
	}
	return a, size, api.OK
}

// P10.3: Norm and Size.
func TestNormAndSize(t *testing.T) {
	for _, a := range areas() {
		want, size, e := normed(a)
		if got, f := a.Norm(); got != want || f != e {
			t.Errorf("Norm of %v: %v %d, want %v %d", a, got, f, want, e)
		}
		if want != a {
			size = 0
		}
		if got := a.Size(); got != size {
			t.Errorf("Size of %v: %d, want %d", a, got, size)
		}
	}
}

// P10.3: Norm at the limit of cells.
func TestNormAtItsLimit(t *testing.T) {
	for a, want := range map[addr.Area]api.Errno{
		{1, 1, 10, 20}: api.OK, {10, 20, 1, 1}: api.OK, {1, 20, 10, 1}: api.OK, {10, 1, 1, 20}: api.OK, {1, 1, 4, 50}: api.OK, {51, 1, 52, 99}: api.OK, {1, 96, 50, 99}: api.OK,
		{1, 1, 3, 67}: api.ErrArea, {1, 1, 3, 99}: api.ErrArea, {3, 67, 1, 1}: api.ErrArea, {1, 1, 52, 99}: api.ErrArea, {50, 1, 52, 99}: api.ErrArea, {1, 1, 52, 4}: api.ErrArea,
		{0, 1, 52, 99}: api.ErrAddr, {1, 1, 53, 99}: api.ErrAddr, {1, 0, 52, 99}: api.ErrAddr, {1, 1, 52, 100}: api.ErrAddr, {}: api.ErrAddr,
	} {
		if _, e := a.Norm(); e != want {
			t.Errorf("Norm of %v: %d, want %d", a, e, want)
		}
	}
}

// P10.3: Has.
func TestHas(t *testing.T) {
	for _, a := range []addr.Area{{1, 1, 1, 1}, {2, 3, 5, 3}, {3, 98, 4, 99}, {50, 1, 52, 20}, {5, 5, 3, 6}, {3, 6, 5, 5}, {5, 6, 3, 5}, {0, 1, 3, 3}, {1, 1, 52, 99}, {1, 98, 2, 100}} {
		want, _, _ := normed(a)
		for _, col := range append(edges, 4, 6, 50) {
			for _, row := range append(edges, 4, 6, 19, 21, 97) {
				inside := want == a && a.Col1 <= col && col <= a.Col2 && a.Row1 <= row && row <= a.Row2
				if a.Has(col, row) != inside {
					t.Errorf("%v has %d and %d: %v", a, col, row, !inside)
				}
			}
		}
	}
}

// P10.3: Cells.
func TestCells(t *testing.T) {
	got := addr.Area{Col1: 1, Row1: 1, Col2: 2, Row2: 2}.Cells(3)
	want := []api.Cell{{Sheet: 3, Col: 1, Row: 1}, {Sheet: 3, Col: 2, Row: 1}, {Sheet: 3, Col: 1, Row: 2}, {Sheet: 3, Col: 2, Row: 2}}
	if len(got) != len(want) {
		t.Fatalf("Cells: %v", got)
	}
	for i := range got {
		if got[i] != want[i] {
			t.Errorf("Cells: %v", got)
		}
	}
	for _, a := range []addr.Area{{}, {2, 1, 1, 2}, {1, 2, 2, 1}, {2, 2, 1, 1}, {0, 1, 1, 1}, {1, 1, 52, 99}, {52, 99, 53, 99}, {1, 1, math.MaxInt, math.MaxInt}, {math.MinInt, math.MinInt, math.MaxInt, math.MaxInt}} {
		if l := a.Cells(0); len(l) != 0 {
			t.Errorf("Cells of %v: %v", a, l)
		}
	}
}

// P10.4: Cells has Size cells, all of which it Has; P10.3: in their order, of that sheet.
func TestCellsAreItsCells(t *testing.T) {
	for i, a := range areas() {
		sheet := edges[i%len(edges)]
		l := a.Cells(sheet)
		if len(l) != a.Size() {
			t.Errorf("%v has %d cells, its size is %d", a, len(l), a.Size())
		}
		for i, c := range l {
			if !a.Has(c.Col, c.Row) || c.Sheet != sheet {
				t.Errorf("a cell of %v on sheet %d: %v", a, sheet, c)
			}
			if i > 0 && c.Row*100+c.Col <= l[i-1].Row*100+l[i-1].Col {
				t.Errorf("cells of %v: %v is behind %v", a, c, l[i-1])
			}
		}
	}
}

// Rule 4: what is written into an answer is seen by no later one.
func TestCellsAreNew(t *testing.T) {
	a := addr.Area{Col1: 1, Row1: 1, Col2: 2, Row2: 2}
	first := a.Cells(0)
	for i := range first {
		first[i] = api.Cell{}
	}
	for i, c := range a.Cells(0) {
		if c == (api.Cell{}) {
			t.Errorf("cell %d was written over", i)
		}
	}
}
