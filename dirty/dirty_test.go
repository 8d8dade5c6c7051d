package dirty_test

import (
	"math"
	"slices"
	"testing"

	"abacist/api"
	"abacist/dirty"
	"abacist/graph"
	"abacist/sheets"
)

// at is a cell of the first row.
func at(col int) api.Cell { return api.Cell{Col: col, Row: 1} }

// row is some cells of the first row.
func row(cols ...int) []api.Cell {
	var l []api.Cell
	for _, col := range cols {
		l = append(l, at(col))
	}
	return l
}

// made is a graph of cells of the first row: of each line the first one needs the others.
func made(lines ...[]int) *graph.Graph {
	g := graph.New()
	for _, l := range lines {
		g.Set(at(l[0]), row(l[1:]...)...)
	}
	return g
}

// want checks one answer.
func want(t *testing.T, what string, got, want []api.Cell) {
	t.Helper()
	if !slices.Equal(got, want) {
		t.Errorf("%s: %v, want %v", what, got, want)
	}
}

// asked is some columns, what is behind them, and what is behind them and all circles.
type asked struct{ l, behind, closure []int }

// drawing is a graph, what is tainted in it, and what is asked of it.
type drawing struct {
	name    string
	lines   [][]int
	tainted []int
	asked   []asked
}

// drawings are graphs without circles, and with some.
func drawings() []drawing {
	return []drawing{
		{"no cell", nil, nil, []asked{{nil, nil, nil}, {[]int{1}, nil, nil}, {[]int{2, 1, 2}, nil, nil}}},
		{"one that needs nothing", [][]int{{4}}, nil, []asked{
			{nil, nil, nil}, {[]int{4}, []int{4}, []int{4}}, {[]int{4, 4}, []int{4}, []int{4}}, {[]int{3, 5}, nil, nil}, {[]int{5, 4, 3}, []int{4}, []int{4}}}},
		{"the chapter's example", [][]int{{2, 1}, {3, 2}}, nil, []asked{
			{nil, nil, nil}, {[]int{1}, []int{2, 3}, []int{2, 3}}, {[]int{2}, []int{2, 3}, []int{2, 3}}, {[]int{3}, []int{3}, []int{3}}, {[]int{4}, nil, nil},
			{[]int{3, 1}, []int{2, 3}, []int{2, 3}}, {[]int{1, 1, 1}, []int{2, 3}, []int{2, 3}}, {[]int{3, 2, 3}, []int{2, 3}, []int{2, 3}}, {[]int{4, 3}, []int{3}, []int{3}}}},
		{"a row the other way", [][]int{{1, 2}, {2, 3}, {3, 4}}, nil, []asked{
			{[]int{4}, []int{1, 2, 3}, []int{1, 2, 3}}, {[]int{3}, []int{1, 2, 3}, []int{1, 2, 3}}, {[]int{2}, []int{1, 2}, []int{1, 2}}, {[]int{1}, []int{1}, []int{1}}}},
		{"one that needs itself", [][]int{{1, 1}, {2, 1}, {3}, {4, 3}}, []int{1, 2}, []asked{
			{nil, nil, []int{1, 2}}, {[]int{1}, []int{1, 2}, []int{1, 2}}, {[]int{2}, []int{2}, []int{1, 2}}, {[]int{3}, []int{3, 4}, []int{1, 2, 3, 4}}, {[]int{5}, nil, []int{1, 2}}}},
		{"a circle between", [][]int{{2, 1}, {3, 2, 4}, {4, 3}, {5, 4}, {6, 5}, {7}, {8, 7}}, []int{3, 4, 5, 6}, []asked{
			{nil, nil, []int{3, 4, 5, 6}}, {[]int{1}, []int{2, 3, 4, 5, 6}, []int{2, 3, 4, 5, 6}}, {[]int{2}, []int{2, 3, 4, 5, 6}, []int{2, 3, 4, 5, 6}},
			{[]int{3}, []int{3, 4, 5, 6}, []int{3, 4, 5, 6}}, {[]int{4}, []int{3, 4, 5, 6}, []int{3, 4, 5, 6}}, {[]int{4, 3}, []int{3, 4, 5, 6}, []int{3, 4, 5, 6}},
			{[]int{5}, []int{5, 6}, []int{3, 4, 5, 6}}, {[]int{6}, []int{6}, []int{3, 4, 5, 6}}, {[]int{7}, []int{7, 8}, []int{3, 4, 5, 6, 7, 8}},
			{[]int{8}, []int{8}, []int{3, 4, 5, 6, 8}}, {[]int{8, 6}, []int{6, 8}, []int{3, 4, 5, 6, 8}}, {[]int{9, 0}, nil, []int{3, 4, 5, 6}}}},
		{"circles that lead to each other", [][]int{{1, 4}, {4, 1, 2}, {2, 3, 9}, {3, 2}, {6, 6}, {7, 9}}, []int{1, 2, 3, 4, 6}, []asked{
			{nil, nil, []int{1, 2, 3, 4, 6}}, {[]int{1}, []int{1, 4}, []int{1, 2, 3, 4, 6}}, {[]int{3}, []int{1, 2, 3, 4}, []int{1, 2, 3, 4, 6}},
			{[]int{6}, []int{6}, []int{1, 2, 3, 4, 6}}, {[]int{9}, []int{1, 2, 3, 4, 7}, []int{1, 2, 3, 4, 6, 7}}, {[]int{7}, []int{7}, []int{1, 2, 3, 4, 6, 7}}}},
		{"two ways to one", [][]int{{1, 2, 3}, {2, 4}, {3, 4}, {5}}, nil, []asked{
			{[]int{4}, []int{1, 2, 3}, []int{1, 2, 3}}, {[]int{2}, []int{1, 2}, []int{1, 2}}, {[]int{3, 2}, []int{1, 2, 3}, []int{1, 2, 3}}, {[]int{5, 1}, []int{1, 5}, []int{1, 5}}}},
		{"no way by a cell without a formula", [][]int{{1, 2}, {3, 1}}, nil, []asked{
			{[]int{2}, []int{1, 3}, []int{1, 3}}, {[]int{1}, []int{1, 3}, []int{1, 3}}, {[]int{3}, []int{3}, []int{3}}}},
	}
}

// P31.1: what is behind cells, and behind circles, in whichever order the formulas were set.
func TestGraphs(t *testing.T) {
	for _, d := range drawings() {
		for range 2 {
			g := made(d.lines...)
			want(t, d.name+": Tainted", dirty.Tainted(g), row(d.tainted...))
			for _, a := range d.asked {
				want(t, d.name+": Behind", dirty.Behind(g, row(a.l...)...), row(a.behind...))
				want(t, d.name+": Closure", dirty.Closure(g, row(a.l...)...), row(a.closure...))
				slices.Reverse(a.l)
				want(t, d.name+": Behind, the other way", dirty.Behind(g, row(a.l...)...), row(a.behind...))
				want(t, d.name+": Closure, the other way", dirty.Closure(g, row(a.l...)...), row(a.closure...))
			}
			slices.Reverse(d.lines)
		}
	}
}

// P31.1: a nil graph, one without cells, and one that New did not make.
func TestNone(t *testing.T) {
	far := []api.Cell{{}, {Sheet: math.MinInt, Col: math.MaxInt, Row: -1}, {Sheet: math.MaxInt}}
	for _, g := range []*graph.Graph{nil, graph.New(), {}} {
		for _, l := range [][]api.Cell{nil, {}, row(1), row(2, 1, 1), far} {
			if dirty.Behind(g, l...) != nil || dirty.Closure(g, l...) != nil || dirty.Tainted(g) != nil {
				t.Errorf("of %v and %v something is told", g, l)
			}
		}
	}
}

// P31.1: cells of several sheets, and outside the grid, in order by sheet, row and column.
func TestAnyCells(t *testing.T) {
	far := api.Cell{Sheet: math.MinInt, Col: math.MaxInt, Row: math.MinInt}
	near := api.Cell{Sheet: 0, Col: 9, Row: 1}
	low := api.Cell{Sheet: 0, Col: 1, Row: 2}
	other := api.Cell{Sheet: 2, Col: 1, Row: 1}
	last := api.Cell{Sheet: math.MaxInt}
	none := api.Cell{Sheet: 1, Col: -1}
	g := graph.New()
	g.Set(last, other)
	g.Set(other, low, none)
	g.Set(low, near)
	g.Set(near)
	g.Set(far, low)
	want(t, "Behind of one", dirty.Behind(g, low), []api.Cell{far, low, other, last})
	want(t, "Behind of one without a formula", dirty.Behind(g, none), []api.Cell{other, last})
	want(t, "Behind of all", dirty.Behind(g, none, last, near, other, low, far), []api.Cell{far, near, low, other, last})
	want(t, "Tainted", dirty.Tainted(g), nil)
	g.Set(other, last)
	want(t, "Tainted", dirty.Tainted(g), []api.Cell{other, last})
	want(t, "Closure of none", dirty.Closure(g), []api.Cell{other, last})
	want(t, "Closure of one", dirty.Closure(g, low), []api.Cell{far, low, other, last})
}

// P31.1: a formula that is dropped, or another one, leaves nothing behind.
func TestLost(t *testing.T) {
	g := made([]int{1, 2}, []int{2, 3}, []int{3, 1}, []int{4, 2})
	want(t, "Tainted", dirty.Tainted(g), row(1, 2, 3, 4))
	g.Drop(at(2))
	want(t, "Tainted without one", dirty.Tainted(g), nil)
	want(t, "Behind of it", dirty.Behind(g, at(2)), row(1, 3, 4))
	want(t, "Behind of what it needed", dirty.Behind(g, at(3)), row(3))
	g.Set(at(2), at(2))
	want(t, "Tainted with another one", dirty.Tainted(g), row(1, 2, 3, 4))
	want(t, "Closure of none", dirty.Closure(g), row(1, 2, 3, 4))
	want(t, "Behind of what it needed", dirty.Behind(g, at(3)), row(3))
}

// P31.1: very many cells: rows either way, circles, cells that all others need, also by one between, and graphs where all need all ahead.
func TestMany(t *testing.T) {
	const n = 20000
	for _, by := range []int{1, n - 1} {
		g := graph.New()
		for i := range n {
			g.Set(at(i), at((i+by)%n))
		}
		if len(dirty.Behind(g, at(n/2))) != n || len(dirty.Tainted(g)) != n || len(dirty.Closure(g)) != n {
			t.Error("not all of a circle")
		}
		g.Drop(at(0))
		if got := dirty.Behind(g, at(0)); len(got) != n-1 || got[0] != at(1) || got[n-2] != at(n-1) {
			t.Errorf("a row: %d cells", len(got))
		}
		if len(dirty.Tainted(g)) != 0 || len(dirty.Closure(g, at((n-by)%n))) != n-1 {
			t.Error("not all of a row")
		}
	}
	g := graph.New()
	for i := range n {
		g.Set(at(2*i+1), at(0))
		g.Set(at(2*i+2), at(2*i+1))
	}
	if got := dirty.Behind(g, at(0)); len(got) != 2*n || got[0] != at(1) || got[2*n-1] != at(2*n) {
		t.Errorf("a cell that many need: %d cells", len(got))
	}
	want(t, "one of many", dirty.Behind(g, at(7)), row(7, 8))
	if got := dirty.Behind(g, g.Cells()...); len(got) != 2*n {
		t.Errorf("all cells: %d", len(got))
	}
	g = graph.New()
	var ahead []api.Cell
	for i := range 300 {
		g.Set(at(i), ahead...)
		ahead = append(ahead, at(i))
	}
	if len(dirty.Behind(g, at(0))) != 300 || len(dirty.Behind(g, at(299), at(100))) != 200 || len(dirty.Tainted(g)) != 0 {
		t.Error("all need all ahead")
	}
}

// P31.1: the formulas of a book, of two sheets.
func TestOfBook(t *testing.T) {
	b, e := sheets.Add(sheets.New(), "Two")
	if e != api.OK {
		t.Fatal(e)
	}
	two := api.Cell{Sheet: 1, Col: 1, Row: 1}
	for _, c := range []struct {
		at   api.Cell
		text string
	}{
		{two, "=SUM(Sheet_1!A1:B1)"}, {at(2), "7"}, {at(3), "=Two!A1"}, {at(4), "=D1+C1"}, {at(5), "=1"},
	} {
		if b, e = sheets.Set(b, c.at, c.text); e != api.OK {
			t.Fatalf("%s: %d", c.text, e)
		}
	}
	g := graph.Of(b)
	want(t, "Behind of a literal", dirty.Behind(g, at(2)), []api.Cell{at(3), at(4), two})
	want(t, "Behind of a Blank", dirty.Behind(g, at(1)), []api.Cell{at(3), at(4), two})
	want(t, "Tainted", dirty.Tainted(g), row(4))
	want(t, "Closure", dirty.Closure(g, at(5)), row(4, 5))
}

// P31.1: what is handed in is not changed, also behind its end; no answer shares memory with it, with a graph or with another answer.
func TestOwnMemory(t *testing.T) {
	g := made([]int{1, 2}, []int{2, 1}, []int{3, 1}, []int{4, 9})
	whole := row(9, 3, 9, 7, 8, 6, 5)
	l := whole[:3]
	for range 2 {
		behind, closure, tainted := dirty.Behind(g, l...), dirty.Closure(g, l...), dirty.Tainted(g)
		want(t, "Behind", behind, row(3, 4))
		want(t, "Closure", closure, row(1, 2, 3, 4))
		want(t, "Tainted", tainted, row(1, 2, 3))
		want(t, "what was handed in", whole, row(9, 3, 9, 7, 8, 6, 5))
		for _, answer := range [][]api.Cell{behind, closure, tainted} {
			clear(answer[:cap(answer)])
		}
		want(t, "the graph", g.Cells(), row(1, 2, 3, 4))
		want(t, "who needs a cell", g.For(at(1)), row(2, 3))
		want(t, "what a cell needs", g.Needs(at(1)), row(2))
	}
	formulas := row(3, 4)
	answer := dirty.Behind(g, formulas...)
	clear(formulas)
	want(t, "Behind", answer, row(3, 4))
	clear(answer)
	want(t, "Behind of no cell", dirty.Behind(g, formulas...), nil)
}
