package prec_test

import (
	"math"
	"slices"
	"strings"
	"testing"

	"abacist/api"
	"abacist/prec"
	"abacist/sheets"
)

// entry is one of a cell with a text, its value left out.
func entry(at api.Cell, text string) api.Entry { return api.Entry{At: at, Text: text} }

// want checks what Book tells: a cell, and what it needs, a line each, with a colon between.
func want(t *testing.T, b api.Book, lines ...string) {
	t.Helper()
	got, needs := prec.Book(b)
	if len(got) != len(lines) || len(needs) != len(lines) {
		t.Errorf("%v: %v, %v, want %q", b, got, needs, lines)
		return
	}
	for i, line := range lines {
		at, needed, _ := strings.Cut(line, ":")
		if got[i] != cells(t, at)[0] || !slices.Equal(needs[i], cells(t, needed)) {
			t.Errorf("%v: %v needs %v, want %s", b, got[i], needs[i], line)
		}
	}
}

// book is one of two sheets that can be, its formulas not reckoned.
func book(t *testing.T) api.Book {
	t.Helper()
	b, e := sheets.Add(sheets.New(), "two")
	for _, c := range []struct {
		at   api.Cell
		text string
	}{
		{cell(1, 1, 1), "= SUM( A1 : B1 ) + Sheet_1!A2"}, {cell(0, 3, 1), "=B1+A1+two!A1"}, {cell(0, 1, 1), "12"}, {cell(0, 2, 1), "'=A1"}, {cell(0, 1, 2), "=A2"}, {cell(0, 2, 2), "=1+2"}, {cell(1, 2, 1), "=no!A1"},
	} {
		if e == api.OK {
			b, e = sheets.Set(b, c.at, c.text)
		}
	}
	if e != api.OK || !sheets.Right(b) {
		t.Fatalf("no book: %d", e)
	}
	return b
}

// P27.1: Book of books that can be.
func TestBook(t *testing.T) {
	want(t, sheets.New())
	want(t, book(t), "C1: A1 B1 1!A1", "A2: A2", "B2:", "1!A1: A2 1!A1 1!B1", "1!B1:")
}

// P27.1: Book of books that can not be: each entry whose text is read as a formula counts, in the list's order.
func TestBookThatCanNotBe(t *testing.T) {
	one := []string{"One", "two"}
	long := "=1" + strings.Repeat("+A1", 100)
	for _, c := range []struct {
		b     api.Book
		lines []string
	}{
		{api.Book{}, nil},
		{api.Book{Cells: []api.Entry{entry(cell(0, 1, 1), "=A1"), entry(cell(3, 1, 1), "=A1+One!B1")}}, []string{"A1: A1", "3!A1: 3!A1"}},
		{api.Book{Sheets: []string{"two", "One", "two"}, Cells: []api.Entry{entry(cell(2, 1, 1), "=two!A1+A1"), entry(cell(1, 1, 1), "=two!A1+A1")}}, []string{"2!A1: A1 2!A1", "1!A1: A1 1!A1"}},
		{api.Book{Sheets: one, Cells: []api.Entry{entry(cell(1, 1, 1), "=B1"), entry(cell(0, 9, 9), "=B2"), entry(cell(0, 1, 1), "=B3"), entry(cell(0, 2, 1), "=B4")}}, []string{"1!A1: 1!B1", "I9: B2", "A1: B3", "B1: B4"}},
		{api.Book{Sheets: one, Cells: []api.Entry{entry(cell(0, 1, 1), "=B1"), entry(cell(0, 1, 1), "=C1"), entry(cell(0, 1, 1), "3"), entry(cell(0, 1, 1), "=B1")}}, []string{"A1: B1", "A1: C1", "A1: B1"}},
		{api.Book{Sheets: one, Cells: []api.Entry{entry(cell(0, 1, 1), "= b1"), entry(cell(0, 1, 1), "=B1+"), entry(cell(0, 1, 1), "="), entry(cell(0, 1, 1), ""), entry(cell(0, 1, 1), "B1"), entry(cell(0, 1, 1), " =B1"), entry(cell(0, 1, 1), "'=B1"), entry(cell(0, 1, 1), "\x00"), entry(cell(0, 1, 1), "=A100"), entry(cell(0, 1, 1), "=A1:U10"), entry(cell(0, 1, 1), long), entry(cell(0, 1, 1), strings.Repeat("=", 10000))}}, nil},
		{api.Book{Sheets: one, Cells: []api.Entry{entry(cell(0, 1, 1), "= B1 + 01"), entry(cell(0, 2, 1), "=((C1))")}}, []string{"A1: B1", "B1: C1"}},
		{api.Book{Sheets: one, Max: -1, Iter: true, Eps: api.Rat{Neg: true}, Scens: []api.Scen{{Name: "x", Sets: []api.Set{{At: "One!C1", Text: "=D1"}}}}, Cells: []api.Entry{{At: cell(0, 1, 1), Text: "=B1", Val: api.Value{Kind: 9}}}}, []string{"A1: B1"}},
	} {
		want(t, c.b, c.lines...)
	}
	for _, at := range []api.Cell{cell(0, 0, 0), cell(0, 53, 100), cell(0, math.MinInt, math.MaxInt)} {
		got, needs := prec.Book(api.Book{Sheets: one, Cells: []api.Entry{entry(at, "=two!A1+B1")}})
		if len(got) != 1 || len(needs) != 1 || got[0] != at || !slices.Equal(needs[0], cells(t, "B1 1!A1")) {
			t.Errorf("of an entry of %v: %v, %v", at, got, needs)
		}
	}
	if got, needs := prec.Book(api.Book{Sheets: one, Cells: []api.Entry{entry(cell(0, 1, 1), long[:298])}}); len(got) != 0 || len(needs) != 0 {
		t.Errorf("of a formula that is cut in its middle: %v, %v", got, needs)
	}
	if got, _ := prec.Book(api.Book{Sheets: one, Cells: []api.Entry{entry(cell(0, 1, 1), "=12"+long[5:])}}); len(got) != 1 {
		t.Errorf("of a formula as long as may be: %v", got)
	}
}

// What is handed in stays; no list that is answered shares memory with another one.
func TestBookIsNew(t *testing.T) {
	b := book(t)
	for range 2 {
		want(t, b, "C1: A1 B1 1!A1", "A2: A2", "B2:", "1!A1: A2 1!A1 1!B1", "1!B1:")
		got, needs := prec.Book(b)
		clear(append(got, cell(9, 9, 9)))
		for i, l := range needs {
			kept := slices.Clone(l)
			for j, other := range needs {
				if i != j {
					clear(append(other, cell(9, 9, 9))[len(other):])
				}
			}
			if !slices.Equal(l, kept) {
				t.Errorf("%v by a change of another list: %v", kept, l)
			}
		}
		for _, l := range needs {
			clear(append(l, cell(9, 9, 9)))
		}
	}
	if !sheets.Same(b, book(t)) {
		t.Errorf("changed: %v", b)
	}
}
