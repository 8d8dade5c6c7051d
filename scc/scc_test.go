package scc_test

import (
	"math"
	"slices"
	"testing"

	"abacist/api"
	"abacist/graph"
	"abacist/scc"
	"abacist/sheets"
)

// at is a cell of the first row.
func at(col int) api.Cell { return api.Cell{Col: col, Row: 1} }

// row is some cells of the first row.
func row(cols ...int) []api.Cell {
	var l []api.Cell
	for _, col := range cols {
		l = append(l, at(col))
	}
	return l
}

// made is a graph of cells of the first row: of each line the first one needs the others.
func made(lines ...[]int) *graph.Graph {
	g := graph.New()
	for _, l := range lines {
		g.Set(at(l[0]), row(l[1:]...)...)
	}
	return g
}

// same is whether parts are those of some columns.
func same(parts [][]api.Cell, want [][]int) bool {
	return slices.EqualFunc(parts, want, func(part []api.Cell, cols []int) bool { return slices.Equal(part, row(cols...)) })
}

// P29.1, P29.2: the parts of graphs, and which of them are circles.
func TestParts(t *testing.T) {
	for _, c := range []struct {
		name    string
		lines   [][]int
		parts   [][]int
		circles [][]int
	}{
		{"no cell", nil, nil, nil},
		{"one that needs nothing", [][]int{{4}}, [][]int{{4}}, nil},
		{"one that needs itself", [][]int{{4, 4}}, [][]int{{4}}, [][]int{{4}}},
		{"one that needs a cell without a formula", [][]int{{4, 3}}, [][]int{{4}}, nil},
		{"one that needs itself and others", [][]int{{4, 3, 4, 5}}, [][]int{{4}}, [][]int{{4}}},
		{"the chapter's example", [][]int{{2, 1}, {1, 2}}, [][]int{{1, 2}}, [][]int{{1, 2}}},
		{"a row", [][]int{{3, 2}, {2, 1}, {1}}, [][]int{{1}, {2}, {3}}, nil},
		{"a row the other way", [][]int{{1, 2}, {2, 3}, {3}}, [][]int{{1}, {2}, {3}}, nil},
		{"three", [][]int{{1, 3}, {3, 2}, {2, 1}}, [][]int{{1, 2, 3}}, [][]int{{1, 2, 3}}},
		{"three, the other way", [][]int{{1, 2}, {2, 3}, {3, 1}}, [][]int{{1, 2, 3}}, [][]int{{1, 2, 3}}},
		{"two that share a cell", [][]int{{1, 3}, {3, 1, 5}, {5, 3}}, [][]int{{1, 3, 5}}, [][]int{{1, 3, 5}}},
		{"two, one of which leads to the other", [][]int{{1, 4}, {4, 1, 2}, {2, 3}, {3, 2}}, [][]int{{1, 4}, {2, 3}}, [][]int{{1, 4}, {2, 3}}},
		{"two, by a cell between", [][]int{{1, 4}, {4, 1}, {2, 3}, {3, 2, 6}, {6, 4}}, [][]int{{1, 4}, {2, 3}, {6}}, [][]int{{1, 4}, {2, 3}}},
		{"cells behind and ahead", [][]int{{1, 3}, {3, 5}, {5, 3, 6}, {6, 7}, {7}}, [][]int{{1}, {3, 5}, {6}, {7}}, [][]int{{3, 5}}},
		{"ahead and behind", [][]int{{7, 3}, {3, 5}, {5, 3, 2}, {2, 1}, {1}}, [][]int{{1}, {2}, {3, 5}, {7}}, [][]int{{3, 5}}},
		{"a way by a cell without a formula", [][]int{{1, 2}, {3, 1}}, [][]int{{1}, {3}}, nil},
		{"circles apart, and one alone", [][]int{{9, 1}, {1, 9}, {5, 5}, {2, 8}, {8, 2}, {3}}, [][]int{{1, 9}, {2, 8}, {3}, {5}}, [][]int{{1, 9}, {2, 8}, {5}}},
		{"two ways to one", [][]int{{1, 2, 3}, {2, 4}, {3, 4}, {4}}, [][]int{{1}, {2}, {3}, {4}}, nil},
		{"two ways round", [][]int{{1, 2, 3}, {2, 4}, {3, 4}, {4, 1}}, [][]int{{1, 2, 3, 4}}, [][]int{{1, 2, 3, 4}}},
		{"a circle with one inside", [][]int{{1, 2}, {2, 1, 3}, {3, 4}, {4, 2}}, [][]int{{1, 2, 3, 4}}, [][]int{{1, 2, 3, 4}}},
	} {
		g := made(c.lines...)
		if got := scc.Of(g); !same(got, c.parts) {
			t.Errorf("%s: Of: %v, want %v", c.name, got, c.parts)
		}
		if got := scc.Circles(g); !same(got, c.circles) {
			t.Errorf("%s: Circles: %v, want %v", c.name, got, c.circles)
		}
		for _, part := range c.parts {
			for _, col := range part {
				if got := scc.Part(g, at(col)); !slices.Equal(got, row(part...)) {
					t.Errorf("%s: Part of %d: %v, want %v", c.name, col, got, part)
				}
			}
		}
	}
}

// P29.1: a nil graph, and one that New did not make.
func TestNone(t *testing.T) {
	for _, g := range []*graph.Graph{nil, graph.New(), {}} {
		if scc.Of(g) != nil || scc.Circles(g) != nil || scc.Part(g, at(1)) != nil || scc.Circular(g) || scc.Circular(g, at(1)) {
			t.Errorf("of %v something is told", g)
		}
		if got := scc.Circular(g, at(1), at(2)); got != (g != nil) {
			t.Errorf("Circular of two cells of %v: %t", g, got)
		}
	}
}

// P29.1: cells that are asked whether they are a circle, and those that are no part.
func TestCircular(t *testing.T) {
	g := made([]int{1, 1}, []int{2, 1}, []int{3, 4}, []int{4, 3})
	for _, c := range []struct {
		cols []int
		want bool
	}{
		{nil, false}, {[]int{1}, true}, {[]int{2}, false}, {[]int{3}, false}, {[]int{5}, false},
		{[]int{1, 2}, true}, {[]int{3, 4}, true}, {[]int{2, 2}, true}, {[]int{5, 6}, true}, {[]int{5, 5}, true}, {[]int{1, 2, 3, 4}, true},
	} {
		if got := scc.Circular(g, row(c.cols...)...); got != c.want {
			t.Errorf("Circular of %v: %t", c.cols, got)
		}
	}
}

// P29.1: a cell without a formula is no part.
func TestPartOfNone(t *testing.T) {
	g := made([]int{1, 2}, []int{3, 1, 2})
	for _, cell := range []api.Cell{at(2), at(4), at(0), {Sheet: 1, Col: 1, Row: 1}, {Sheet: math.MinInt, Col: math.MaxInt, Row: -1}} {
		if got := scc.Part(g, cell); len(got) != 0 {
			t.Errorf("Part of %v: %v", cell, got)
		}
	}
}

// P29.1: cells of several sheets, and outside the grid, in order by sheet, row and column.
func TestAnyCells(t *testing.T) {
	far := api.Cell{Sheet: math.MinInt, Col: math.MaxInt, Row: math.MinInt}
	near := api.Cell{Sheet: 0, Col: 9, Row: 1}
	low := api.Cell{Sheet: 0, Col: 1, Row: 2}
	other := api.Cell{Sheet: 2, Col: 1, Row: 1}
	last := api.Cell{Sheet: math.MaxInt}
	g := graph.New()
	g.Set(other, low)
	g.Set(low, near)
	g.Set(near, other)
	g.Set(last, far)
	g.Set(far, last, other)
	want := [][]api.Cell{{far, last}, {near, low, other}}
	if got := scc.Of(g); !slices.EqualFunc(got, want, slices.Equal) {
		t.Errorf("Of: %v, want %v", got, want)
	}
	if got := scc.Part(g, last); !slices.Equal(got, want[0]) {
		t.Errorf("Part: %v, want %v", got, want[0])
	}
}

// P29.1: a circle of which one cell loses its formula, and gets another one.
func TestLost(t *testing.T) {
	g := made([]int{1, 2}, []int{2, 3}, []int{3, 1})
	g.Drop(at(2))
	if got := scc.Of(g); !same(got, [][]int{{1}, {3}}) {
		t.Errorf("without one: %v", got)
	}
	if len(scc.Circles(g)) != 0 || len(scc.Part(g, at(2))) != 0 {
		t.Error("a cell without a formula is on a circle")
	}
	g.Set(at(2), at(1))
	if got := scc.Circles(g); !same(got, [][]int{{1, 2}}) {
		t.Errorf("with another one: %v", got)
	}
}

// many is a graph of so many cells of which need tells which ones a cell needs.
func many(n int, need func(i int) []int) *graph.Graph {
	g := graph.New()
	for i := range n {
		g.Set(at(i), row(need(i)...)...)
	}
	return g
}

// P29.1: rows and circles of very many cells, either way, and graphs where all need all.
func TestMany(t *testing.T) {
	const n = 20000
	for _, by := range []int{1, n - 1} {
		g := many(n, func(i int) []int { return []int{(i + by) % n} })
		if got := scc.Of(g); len(got) != 1 || len(got[0]) != n || got[0][7] != at(7) {
			t.Errorf("a circle: %d parts", len(got))
		}
		if got := scc.Part(g, at(n/2)); len(got) != n || got[7] != at(7) {
			t.Errorf("Part has %d cells", len(got))
		}
		g.Drop(at(n / 3))
		if got := scc.Of(g); len(got) != n-1 || len(scc.Circles(g)) != 0 {
			t.Errorf("a row: %d parts", len(got))
		}
		if got := scc.Part(g, at(n/2)); len(got) != 1 {
			t.Errorf("Part has %d cells", len(got))
		}
	}
	all := make([]int, 300)
	for i := range all {
		all[i] = i
	}
	g := many(300, func(int) []int { return all })
	if got := scc.Circles(g); len(got) != 1 || len(got[0]) != 300 {
		t.Errorf("all need all: %d circles", len(got))
	}
	g = many(300, func(i int) []int { return all[:i] })
	if got := scc.Of(g); len(got) != 300 || len(scc.Circles(g)) != 0 {
		t.Errorf("all need those ahead: %d parts", len(got))
	}
}

// P29.1: the circles of a book.
func TestOfBook(t *testing.T) {
	b, e := sheets.Add(sheets.New(), "Two")
	if e != api.OK {
		t.Fatal(e)
	}
	for _, c := range []struct {
		at   api.Cell
		text string
	}{
		{at(1), "=Two!A1"}, {api.Cell{Sheet: 1, Col: 1, Row: 1}, "=SUM(Sheet_1!A1:B1)"}, {at(2), "=C1"}, {at(3), "1"},
	} {
		if b, e = sheets.Set(b, c.at, c.text); e != api.OK {
			t.Fatalf("%s: %d", c.text, e)
		}
	}
	got := scc.Circles(graph.Of(b))
	if len(got) != 1 || !slices.Equal(got[0], []api.Cell{at(1), {Sheet: 1, Col: 1, Row: 1}}) {
		t.Errorf("Circles: %v", got)
	}
}

// P29.1: neither an answer nor the cells that are handed in share memory with a graph, and it is not changed.
func TestOwnMemory(t *testing.T) {
	g := made([]int{1, 2}, []int{2, 1}, []int{3, 1})
	for range 2 {
		parts, circles, part := scc.Of(g), scc.Circles(g), scc.Part(g, at(2))
		if !same(parts, [][]int{{1, 2}, {3}}) || !same(circles, [][]int{{1, 2}}) || !slices.Equal(part, row(1, 2)) {
			t.Fatalf("%v, %v, %v", parts, circles, part)
		}
		_ = append(parts[0], at(9))
		if parts[1][0] != at(3) {
			t.Error("parts share memory")
		}
		for _, l := range append(append(parts, circles...), part) {
			clear(l)
		}
		clear(parts)
		clear(circles)
		if !slices.Equal(g.Cells(), row(1, 2, 3)) || !slices.Equal(g.Needs(at(3)), row(1)) || !slices.Equal(g.For(at(1)), row(2, 3)) {
			t.Error("the graph was changed")
		}
	}
	l := row(2, 1)
	if !scc.Circular(g, l...) || !slices.Equal(l, row(2, 1)) {
		t.Error("Circular changes what it is handed")
	}
}
