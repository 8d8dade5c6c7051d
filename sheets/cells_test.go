package sheets_test

import (
	"math"
	"slices"
	"strings"
	"testing"

	"abacist/api"
	"abacist/sheets"
)

// P26.1: a sheet's number is that of the first one of its name.
func TestSheet(t *testing.T) {
	b := empty("a", "b", "B", "a", "", "A1")
	for name, want := range map[string]int{"a": 0, "b": 1, "B": 2, "": 4, "A1": 5, "A": -1, "ab": -1, "a ": -1} {
		got, ok := sheets.Sheet(b, name)
		if got != max(want, 0) || ok != (want >= 0) {
			t.Errorf("Sheet of %q: %d, %t", name, got, ok)
		}
	}
	for _, name := range []string{"", "a"} {
		if got, ok := sheets.Sheet(api.Book{}, name); got != 0 || ok {
			t.Errorf("Sheet of %q, where there is none: %d, %t", name, got, ok)
		}
	}
}

// P26.2: an address is a cell's, of the first sheet where none is named.
func TestAt(t *testing.T) {
	b := empty("Sheet_1", "b", "B")
	for s, want := range map[string]api.Cell{"A1": cell(0, 1, 1), "AZ99": cell(0, 52, 99), "Sheet_1!C2": cell(0, 3, 2), "b!A1": cell(1, 1, 1), "B!A1": cell(2, 1, 1), "b!AZ99": cell(1, 52, 99), "B12": cell(0, 2, 12)} {
		if got, e := sheets.At(b, s); got != want || e != api.OK {
			t.Errorf("At of %q: %v, %d", s, got, e)
		}
	}
	for s, want := range map[string]api.Errno{
		"":            api.ErrText,
		"a1":          api.ErrText,
		"b!a1":        api.ErrText,
		"b":           api.ErrText,
		"b!":          api.ErrText,
		"!A1":         api.ErrText,
		"A1:B2":       api.ErrText,
		"A0":          api.ErrText,
		"A01":         api.ErrText,
		"A1000":       api.ErrText,
		" A1":         api.ErrText,
		"A1 ":         api.ErrText,
		"b!b!A1":      api.ErrText,
		"A1!A1":       api.ErrText,
		"none!a1":     api.ErrText,
		"1b!A1":       api.ErrText,
		"$A1":         api.ErrText,
		"A$1":         api.ErrText,
		"$A$1":        api.ErrText,
		"b!$A$1":      api.ErrText,
		"b!A$1":       api.ErrText,
		"none!$A1":    api.ErrText,
		"none!$A$100": api.ErrAddr,
		"$A$100":      api.ErrAddr,
		"A100":        api.ErrAddr,
		"BA1":         api.ErrAddr,
		"none!BA1":    api.ErrAddr,
		"none!A1":     api.ErrName,
		"sheet_1!A1":  api.ErrName,
		"empty!A1":    api.ErrName,

		strings.Repeat("A", 100000) + "1": api.ErrText,
	} {
		if got, e := sheets.At(b, s); got != (api.Cell{}) || e != want {
			t.Errorf("At of %q: %v, %d, want %d", s, got, e, want)
		}
	}
	if got, e := sheets.At(empty("b", "b"), "b!C1"); got != cell(0, 3, 1) || e != api.OK {
		t.Errorf("At where a sheet is there twice: %v, %d", got, e)
	}
	if got, e := sheets.At(api.Book{}, "B1"); got != (api.Cell{}) || e != api.ErrName {
		t.Errorf("At where no sheet is: %v, %d", got, e)
	}
}

// P26.2: cells have names, others none.
func TestName(t *testing.T) {
	b := empty("Sheet_1", "b", "B")
	for want, at := range map[string]api.Cell{"Sheet_1!A1": cell(0, 1, 1), "b!AA12": cell(1, 27, 12), "B!AZ99": cell(2, 52, 99)} {
		if got := sheets.Name(b, at); got != want {
			t.Errorf("Name of %v: %q", at, got)
		}
	}
	for _, at := range outside(3) {
		if got := sheets.Name(b, at); got != "" {
			t.Errorf("Name of %v: %q", at, got)
		}
	}
	if got := sheets.Name(api.Book{}, cell(0, 1, 1)); got != "" {
		t.Errorf("Name where no sheet is: %q", got)
	}
	for _, name := range badNames() {
		if got := sheets.Name(empty(name), cell(0, 1, 1)); got != "" {
			t.Errorf("Name in the sheet %q: %q", name, got)
		}
	}
}

// P26.5: At of Name is the cell.
func TestAtOfName(t *testing.T) {
	b := empty(names(6)...)
	told := map[string]bool{}
	for sheet := range 6 {
		for col := 1; col <= 52; col++ {
			for row := 1; row <= 99; row++ {
				at := cell(sheet, col, row)
				s := sheets.Name(b, at)
				if got, e := sheets.At(b, s); got != at || e != api.OK {
					t.Fatalf("At of %q: %v, %d, want %v", s, got, e, at)
				}
				told[s] = true
			}
		}
	}
	if len(told) != 6*52*99 {
		t.Errorf("%d names", len(told))
	}
}

// P26.2: Get is the first entry of a cell, or one without a content.
func TestGet(t *testing.T) {
	b := book()
	for i, entry := range b.Cells {
		if got := sheets.Get(b, entry.At); got != b.Cells[i] {
			t.Errorf("Get of %v: %v", entry.At, got)
		}
	}
	for _, at := range append(outside(3), cell(0, 11, 1), cell(2, 1, 1), cell(0, 51, 99), cell(math.MaxInt, math.MaxInt, math.MaxInt)) {
		for _, from := range []api.Book{b, {}, full(300)} {
			if got := sheets.Get(from, at); got != (api.Entry{At: at}) {
				t.Errorf("Get of %v: %v", at, got)
			}
		}
	}
	// Also of a book that can not be.
	odd := api.Book{Cells: []api.Entry{{At: cell(9, 9, 9), Text: "a"}, {At: cell(-1, 0, 0), Text: "b"}, {At: cell(9, 9, 9), Text: "c"}}}
	for at, want := range map[api.Cell]string{cell(9, 9, 9): "a", cell(-1, 0, 0): "b"} {
		if got := sheets.Get(odd, at); got != (api.Entry{At: at, Text: want}) {
			t.Errorf("Get of %v: %v", at, got)
		}
	}
}

// set sets what must go well, and looks that b stays as it was.
func set(t *testing.T, b api.Book, at api.Cell, s string) api.Book {
	t.Helper()
	before := clone(b)
	got, e := sheets.Set(b, at, s)
	if e != api.OK || !sheets.Right(got) {
		t.Errorf("Set of %v to %q: %d, %v", at, s, e, got)
	}
	if !alike(b, before) {
		t.Errorf("Set of %v to %q changed the book", at, s)
	}
	return got
}

// P26.3: a cell that is set has that content, and the value that it tells, none of a formula; all else stays.
func TestSet(t *testing.T) {
	for s, want := range map[string]api.Entry{
		"12":         {Text: "12", Val: n(12)},
		"4/2":        {Text: "2", Val: n(2)},
		"'12":        {Text: "'12", Val: text("12")},
		"'a":         {Text: "a", Val: text("a")},
		"'":          {Text: "'", Val: text("")},
		"FALSE":      {Text: "FALSE", Val: truth(false)},
		"#CIRC!":     {Text: "#CIRC!", Val: fault(7)},
		"= 1+ 2":     {Text: "=1+2"},
		"=gone!A1":   {Text: "=gone!A1"},
		"=(b!A1) ":   {Text: "=b!A1"},
		"Sheet_1!A1": {Text: "Sheet_1!A1", Val: text("Sheet_1!A1")},
	} {
		for i, entry := range book().Cells {
			other := book()
			want.At = entry.At
			other.Cells[i] = want
			if got := set(t, book(), entry.At, s); !alike(got, other) || sheets.Get(got, entry.At) != want {
				t.Errorf("Set of %v to %q: %v", entry.At, s, got)
			}
		}
		for i, at := range map[int]api.Cell{2: cell(0, 3, 1), 3: cell(0, 2, 2), 5: cell(1, 2, 1), 7: cell(2, 1, 1)} {
			other := book()
			want.At = at
			other.Cells = slices.Insert(other.Cells, i, want)
			if got := set(t, book(), at, s); !alike(got, other) || sheets.Get(got, at) != want {
				t.Errorf("Set of %v to %q: %v", at, s, got)
			}
		}
	}
}

// Of an empty content the cell is gone; also if it was not there.
func TestSetToNothing(t *testing.T) {
	for i, entry := range book().Cells {
		other := book()
		other.Cells = slices.Delete(other.Cells, i, i+1)
		once := set(t, book(), entry.At, "")
		if !alike(once, other) {
			t.Errorf("Set of %v to nothing: %v", entry.At, once)
		}
		if twice := set(t, once, entry.At, ""); !alike(twice, other) {
			t.Errorf("Set of %v to nothing, twice: %v", entry.At, twice)
		}
	}
	if got := set(t, book(), cell(2, 9, 9), ""); !alike(got, book()) {
		t.Errorf("Set of another one to nothing: %v", got)
	}
	b := sheets.New()
	if got := set(t, set(t, b, cell(0, 1, 1), "12"), cell(0, 1, 1), ""); !alike(got, b) {
		t.Errorf("set and emptied: %v", got)
	}
}

// What can not be set is refused: the cell's error ahead of the content's.
func TestSetRefused(t *testing.T) {
	b := book()
	refuse := func(at api.Cell, s string, want api.Errno) {
		t.Helper()
		if got, e := sheets.Set(b, at, s); e != want || !zero(got) {
			t.Errorf("Set of %v to %q: %v, %d, want %d", at, s, got, e, want)
		}
	}
	for _, at := range outside(3) {
		for _, s := range []string{"1", "", "=", "=A100"} {
			refuse(at, s, api.ErrAddr)
		}
	}
	for s, want := range map[string]api.Errno{"=": api.ErrText, "=A100": api.ErrAddr, "=A1:E41": api.ErrArea, "=" + strings.Repeat("(", 25): api.ErrDeep, "=" + strings.Repeat("9", 78): api.ErrNum, "=" + strings.Repeat(" ", 300): api.ErrLong, "\n": api.ErrText, strings.Repeat("a", 201): api.ErrText, strings.Repeat("1", 301): api.ErrLong} {
		for _, at := range []api.Cell{cell(0, 1, 1), cell(2, 1, 1)} {
			refuse(at, s, want)
		}
	}
	if !alike(b, book()) {
		t.Error("changed")
	}
}

// A full book takes just what is there already.
func TestSetFull(t *testing.T) {
	b := full(299)
	at := cell(1, 10, 10)
	if sheets.Get(b, at).Text != "" {
		t.Fatal("not as thought")
	}
	b = set(t, b, at, "=1")
	if len(b.Cells) != 300 {
		t.Fatalf("%d cells", len(b.Cells))
	}
	before := clone(b)
	for _, other := range []api.Cell{cell(0, 52, 99), cell(0, 11, 1), cell(1, 52, 99)} {
		for _, s := range []string{"1", "=1"} {
			if got, e := sheets.Set(b, other, s); e != api.ErrFull || !zero(got) {
				t.Errorf("Set of %v to %q in a full book: %d cells, %d", other, s, len(got.Cells), e)
			}
		}
		if got, e := sheets.Set(b, other, "=="); e != api.ErrText || !zero(got) {
			t.Errorf("Set of %v to no formula in a full book: %d", other, e)
		}
		if got := set(t, b, other, ""); !alike(got, b) {
			t.Errorf("Set of %v to nothing in a full book", other)
		}
	}
	if got := set(t, b, at, "7"); len(got.Cells) != 300 || sheets.Get(got, at) != (api.Entry{At: at, Text: "7", Val: n(7)}) {
		t.Errorf("Set again in a full book: %v", sheets.Get(got, at))
	}
	if got := set(t, b, at, ""); !alike(got, full(299)) {
		t.Errorf("emptied in a full book: %d cells", len(got.Cells))
	}
	if !alike(b, before) {
		t.Error("changed")
	}
}
