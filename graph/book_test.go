package graph_test

import (
	"slices"
	"strings"
	"testing"

	"abacist/api"
	"abacist/graph"
	"abacist/sheets"
)

// entry is one of a cell with a text, its value left out.
func entry(at api.Cell, text string) api.Entry { return api.Entry{At: at, Text: text} }

// book is a book of sheets and contents, a line each: a cell, and its text behind a blank.
func book(t *testing.T, names []string, lines ...string) api.Book {
	t.Helper()
	b := sheets.New()
	b.Sheets = names
	for _, line := range lines {
		at, text, _ := strings.Cut(line, " ")
		fresh, e := sheets.Set(b, cells(t, at)[0], text)
		if e != api.OK {
			t.Fatalf("%s: %d", line, e)
		}
		b = fresh
	}
	return b
}

// P28.1: Of books that can be.
func TestOf(t *testing.T) {
	one, two := []string{"One"}, []string{"One", "two"}
	want(t, graph.Of(sheets.New()))
	want(t, graph.Of(book(t, one, "A1 1", "B1 '=A1", "C1 x")))
	want(t, graph.Of(book(t, one, "A1 =1")), "A1:")
	want(t, graph.Of(book(t, one, "A1 =A1")), "A1: A1")
	want(t, graph.Of(book(t, one, "B1 =A1", "A1 =B1")), "A1: B1", "B1: A1")
	want(t, graph.Of(book(t, two, "1!A1 =A1+One!A1", "A1 =two!A1+two!B1+no!C1", "C2 =SUM(A1:B2,B2)", "B1 12")), "A1: 1!A1 1!B1", "C2: A1 B1 A2 B2", "1!A1: A1 1!A1")
	b := book(t, two, "C2 =SUM(A1:B2,B2)", "B1 12", "1!B2 =ROW(A1)")
	want(t, graph.Of(b), "C2: A1 B1 A2 B2", "1!B2: 1!A1")
	if !sheets.Same(b, book(t, two, "C2 =SUM(A1:B2,B2)", "B1 12", "1!B2 =ROW(A1)")) {
		t.Errorf("changed: %v", b)
	}
}

// P28.1: Of books that can not be; of a cell with several formulas the last one counts.
func TestOfThatCanNotBe(t *testing.T) {
	names := []string{"One", "two", "One"}
	want(t, graph.Of(api.Book{Cells: []api.Entry{entry(cell(1, 1, 1), "=B1+One!C1"), entry(cell(0, 1, 1), "=A2")}}), "A1: A2", "1!A1: 1!B1")
	want(t, graph.Of(api.Book{Sheets: names, Cells: []api.Entry{entry(cell(2, 1, 1), "=One!B1+A1"), entry(cell(1, 1, 1), "=B1"), entry(cell(0, 1, 1), "= A2 ")}}), "A1: A2", "1!A1: 1!B1", "2!A1: B1 2!A1")
	want(t, graph.Of(api.Book{Sheets: names, Cells: []api.Entry{entry(cell(0, 1, 1), "=B1"), entry(cell(0, 2, 1), "=C1"), entry(cell(0, 1, 1), "=D1"), entry(cell(0, 1, 1), "7")}}), "A1: D1", "B1: C1")
	want(t, graph.Of(api.Book{Sheets: names, Cells: []api.Entry{entry(cell(0, 1, 1), "=B1+"), entry(cell(0, 2, 1), "=b1"), entry(cell(0, 3, 1), "="), entry(cell(0, 4, 1), "\x00"), entry(cell(0, 5, 1), strings.Repeat("=", 301))}}))
	g := graph.Of(api.Book{Sheets: names, Cells: []api.Entry{entry(cell(0, 53, 0), "=two!A1")}})
	if !g.Has(cell(0, 53, 0)) || !slices.Equal(g.For(cell(1, 1, 1)), []api.Cell{cell(0, 53, 0)}) {
		t.Errorf("of an entry outside the grid: %v", g.Cells())
	}
}

// A graph of a book is one as any other: it can be changed, and does not change with the book.
func TestOfIsNew(t *testing.T) {
	b := book(t, []string{"One"}, "A1 =B1", "C1 =A1")
	g := graph.Of(b)
	clear(b.Cells)
	clear(b.Sheets)
	want(t, g, "A1: B1", "C1: A1")
	set(t, g, "A1", "D1")
	drop(t, g, "C1", api.OK)
	want(t, g, "A1: D1")
}
