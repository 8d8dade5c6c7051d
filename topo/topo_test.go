package topo_test

import (
	"math"
	"slices"
	"testing"

	"abacist/api"
	"abacist/graph"
	"abacist/sheets"
	"abacist/topo"
)

// at is a cell of the first row.
func at(col int) api.Cell { return api.Cell{Col: col, Row: 1} }

// row is some cells of the first row.
func row(cols ...int) []api.Cell {
	var l []api.Cell
	for _, col := range cols {
		l = append(l, at(col))
	}
	return l
}

// made is a graph of cells of the first row: of each line the first one needs the others.
func made(lines ...[]int) *graph.Graph {
	g := graph.New()
	for _, l := range lines {
		g.Set(at(l[0]), row(l[1:]...)...)
	}
	return g
}

// same is whether parts are those of some columns.
func same(parts [][]api.Cell, want [][]int) bool {
	return slices.EqualFunc(parts, want, func(part []api.Cell, cols []int) bool { return slices.Equal(part, row(cols...)) })
}

// orders are all orders of lines.
func orders(lines [][]int) [][][]int {
	if len(lines) == 0 {
		return [][][]int{nil}
	}
	var all [][][]int
	for i, line := range lines {
		rest := slices.Concat(lines[:i], lines[i+1:])
		for _, l := range orders(rest) {
			all = append(all, append(l, line))
		}
	}
	return all
}

// P30.1, P30.2: the parts of graphs in order, and how deep they are, in whatever order the cells were set.
func TestOrder(t *testing.T) {
	for _, c := range []struct {
		name  string
		lines [][]int
		order [][]int
		depth int
	}{
		{"no cell", nil, nil, 0},
		{"one that needs nothing", [][]int{{4}}, [][]int{{4}}, 1},
		{"one that needs itself", [][]int{{4, 4}}, [][]int{{4}}, 1},
		{"one that needs a cell without a formula", [][]int{{4, 3}}, [][]int{{4}}, 1},
		{"the chapter's example", [][]int{{1, 2}, {3}, {2}}, [][]int{{2}, {1}, {3}}, 2},
		{"a row", [][]int{{3, 2}, {2, 1}, {1}}, [][]int{{1}, {2}, {3}}, 3},
		{"a row the other way", [][]int{{1, 2}, {2, 3}, {3}}, [][]int{{3}, {2}, {1}}, 3},
		{"all ready", [][]int{{5}, {1}, {4}, {2}}, [][]int{{1}, {2}, {4}, {5}}, 1},
		{"one gets ready that is ahead of others", [][]int{{1, 3}, {2, 5}, {3}, {4}, {5}}, [][]int{{3}, {1}, {4}, {5}, {2}}, 2},
		{"a circle", [][]int{{1, 3}, {3, 1}, {2}}, [][]int{{1, 3}, {2}}, 1},
		{"a circle that needs one that is behind its first cell", [][]int{{1, 3}, {3, 1, 2}, {2}}, [][]int{{2}, {1, 3}}, 2},
		{"a circle between", [][]int{{4, 2}, {2, 3}, {3, 2, 1}, {1}, {5, 4}}, [][]int{{1}, {2, 3}, {4}, {5}}, 4},
		{"circles in a row", [][]int{{1, 2, 3}, {2, 1}, {3, 4}, {4, 3, 5}, {5, 5}}, [][]int{{5}, {3, 4}, {1, 2}}, 3},
		{"two of a part need one", [][]int{{1, 2, 3}, {2, 1, 3}, {3}, {4}}, [][]int{{3}, {1, 2}, {4}}, 2},
		{"a part that needs two of another one", [][]int{{1, 2, 3}, {2, 3}, {3, 2}, {4}}, [][]int{{2, 3}, {1}, {4}}, 2},
		{"ways of different length", [][]int{{1, 2, 5}, {2, 3}, {3, 4}, {4, 5}, {5}}, [][]int{{5}, {4}, {3}, {2}, {1}}, 5},
		{"two ways to one", [][]int{{1, 2, 3}, {2, 4}, {3, 4}, {4}, {5}}, [][]int{{4}, {2}, {3}, {1}, {5}}, 3},
		{"a long way beside a short one", [][]int{{1}, {2, 1}, {3, 2}, {4}, {5, 4}}, [][]int{{1}, {2}, {3}, {4}, {5}}, 3},
		{"a way by a cell without a formula", [][]int{{1, 2}, {3, 1}}, [][]int{{1}, {3}}, 2},
	} {
		for _, lines := range orders(c.lines) {
			g := made(lines...)
			if got := topo.Order(g); !same(got, c.order) {
				t.Fatalf("%s: Order: %v, want %v", c.name, got, c.order)
			}
			if got := topo.Depth(g); got != c.depth {
				t.Fatalf("%s: Depth: %d, want %d", c.name, got, c.depth)
			}
		}
	}
}

// P30.1: a nil graph, and one that New did not make.
func TestNone(t *testing.T) {
	for _, g := range []*graph.Graph{nil, graph.New(), {}} {
		if topo.Order(g) != nil || topo.Depth(g) != 0 {
			t.Errorf("of %v something is told", g)
		}
	}
}

// P30.1: parts of several sheets, and outside the grid, by sheet, row and column.
func TestAnyCells(t *testing.T) {
	far := api.Cell{Sheet: math.MinInt, Col: math.MaxInt, Row: math.MinInt}
	near := api.Cell{Sheet: 0, Col: 9, Row: 1}
	low := api.Cell{Sheet: 0, Col: 1, Row: 2}
	other := api.Cell{Sheet: 2, Col: 1, Row: 1}
	last := api.Cell{Sheet: math.MaxInt}
	g := graph.New()
	for _, cell := range []api.Cell{last, low, other, near} {
		g.Set(cell)
	}
	g.Set(far, low)
	want := [][]api.Cell{{near}, {low}, {far}, {other}, {last}}
	if got := topo.Order(g); !slices.EqualFunc(got, want, slices.Equal) {
		t.Errorf("Order: %v, want %v", got, want)
	}
}

// P30.1: a cell that has lost its formula is nowhere, and is not waited for.
func TestLost(t *testing.T) {
	g := made([]int{1, 2}, []int{2, 3}, []int{3, 1}, []int{4, 2})
	g.Drop(at(2))
	if got := topo.Order(g); !same(got, [][]int{{1}, {3}, {4}}) || topo.Depth(g) != 2 {
		t.Errorf("Order: %v, Depth: %d", got, topo.Depth(g))
	}
}

// P30.1, P30.3: very many cells, in a row either way, on a circle, and where all need all ahead.
func TestMany(t *testing.T) {
	const n = 20000
	for _, by := range []int{1, n - 1} {
		g := graph.New()
		for i := range n {
			g.Set(at(i), at((i+by)%n))
		}
		if topo.Depth(g) != 1 || len(topo.Order(g)) != 1 {
			t.Errorf("a circle: Depth %d", topo.Depth(g))
		}
		g.Drop(at(n / 3))
		if got := topo.Order(g); topo.Depth(g) != n-1 || len(got) != n-1 || got[0][0] != at((n+n/3-by)%n) {
			t.Errorf("a row: Depth %d, %d parts", topo.Depth(g), len(got))
		}
	}
	g := graph.New()
	var ahead []api.Cell
	for i := range 300 {
		g.Set(at(-i), ahead...)
		ahead = append(ahead, at(-i))
	}
	if got := topo.Order(g); topo.Depth(g) != 300 || len(got) != 300 || got[1][0] != at(-1) {
		t.Errorf("all ahead: Depth %d", topo.Depth(g))
	}
	for i := range 300 {
		g.Set(at(-i), ahead...)
	}
	if got := topo.Order(g); topo.Depth(g) != 1 || len(got) != 1 || len(got[0]) != 300 {
		t.Errorf("all need all: Depth %d", topo.Depth(g))
	}
}

// P30.1: the order of a book's formulas.
func TestOfBook(t *testing.T) {
	b := sheets.New()
	for col, text := range []string{"=B1+C1", "=SUM(C1:D1)", "=E1", "=E1", "1"} {
		var e api.Errno
		if b, e = sheets.Set(b, at(col+1), text); e != api.OK {
			t.Fatalf("%s: %d", text, e)
		}
	}
	g := graph.Of(b)
	if got := topo.Order(g); !same(got, [][]int{{3}, {4}, {2}, {1}}) || topo.Depth(g) != 3 {
		t.Errorf("Order: %v, Depth: %d", got, topo.Depth(g))
	}
}

// P30.1: no answer shares memory with a graph or with its own other lists, and the graph is not changed.
func TestOwnMemory(t *testing.T) {
	g := made([]int{1, 2}, []int{2, 1}, []int{3, 1})
	for range 2 {
		got := topo.Order(g)
		if !same(got, [][]int{{1, 2}, {3}}) || topo.Depth(g) != 2 {
			t.Fatalf("%v", got)
		}
		_ = append(got[0], at(9))
		if got[1][0] != at(3) {
			t.Error("parts share memory")
		}
		clear(got[0])
		clear(got[1])
		clear(got)
		if !slices.Equal(g.Cells(), row(1, 2, 3)) || !slices.Equal(g.Needs(at(3)), row(1)) || !slices.Equal(g.For(at(1)), row(2, 3)) {
			t.Error("the graph was changed")
		}
	}
}
