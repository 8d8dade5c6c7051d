package graph_test

import (
	"math"
	"slices"
	"strconv"
	"strings"
	"testing"

	"abacist/addr"
	"abacist/api"
	"abacist/graph"
)

func cell(sheet, col, row int) api.Cell { return api.Cell{Sheet: sheet, Col: col, Row: row} }

// cells are those of a text: addresses with blanks between, on sheet 0, or with a sheet's number and a mark ahead.
func cells(t *testing.T, s string) []api.Cell {
	t.Helper()
	var l []api.Cell
	for _, word := range strings.Fields(s) {
		number, address, found := strings.Cut(word, "!")
		if !found {
			number, address = "0", word
		}
		sheet, wrong := strconv.Atoi(number)
		col, row, e := addr.Parse(address)
		if wrong != nil || e != api.OK {
			t.Fatalf("no cell: %s", word)
		}
		l = append(l, cell(sheet, col, row))
	}
	return l
}

// set sets a cell of a graph.
func set(t *testing.T, g *graph.Graph, at, l string) {
	t.Helper()
	if e := g.Set(cells(t, at)[0], cells(t, l)...); e != api.OK {
		t.Errorf("Set of %s, %s: %d", at, l, e)
	}
}

// drop drops a cell of a graph.
func drop(t *testing.T, g *graph.Graph, at string, want api.Errno) {
	t.Helper()
	if e := g.Drop(cells(t, at)[0]); e != want {
		t.Errorf("Drop of %s: %d, want %d", at, e, want)
	}
}

// want checks all of a graph: its cells with what they need, a line each, with a colon between.
func want(t *testing.T, g *graph.Graph, lines ...string) {
	t.Helper()
	var all []api.Cell
	users := map[api.Cell][]api.Cell{}
	for _, line := range lines {
		at, needed, _ := strings.Cut(line, ":")
		user, needs := cells(t, at)[0], cells(t, needed)
		all = append(all, user)
		if !g.Has(user) || !slices.Equal(g.Needs(user), needs) {
			t.Errorf("%s: %t, %v", line, g.Has(user), g.Needs(user))
		}
		for _, need := range needs {
			users[need] = append(users[need], user)
		}
	}
	if got := g.Cells(); !slices.Equal(got, all) {
		t.Errorf("Cells: %v, want %q", got, lines)
	}
	for sheet := range 3 {
		for _, at := range (addr.Area{Col1: 1, Row1: 1, Col2: 5, Row2: 5}).Cells(sheet) {
			if got := g.For(at); !slices.Equal(got, users[at]) {
				t.Errorf("%q: For of %v: %v, want %v", lines, at, got, users[at])
			}
			if !slices.Contains(all, at) && (g.Has(at) || len(g.Needs(at)) != 0) {
				t.Errorf("%q: %v: %t, %v", lines, at, g.Has(at), g.Needs(at))
			}
		}
	}
}

// far are cells that no sheet has.
func far() []api.Cell {
	return []api.Cell{{}, cell(-1, 1, 1), cell(0, 0, 1), cell(0, 53, 99), cell(0, 52, 100), cell(math.MinInt, math.MaxInt, math.MinInt), cell(math.MaxInt, math.MinInt, math.MaxInt)}
}

// P28.1, for a graph that is nil: each call.
func TestNil(t *testing.T) {
	var g *graph.Graph
	for _, at := range append(far(), cell(0, 1, 1)) {
		if e := g.Set(at); e != api.ErrNil {
			t.Errorf("Set: %d", e)
		}
		if e := g.Set(at, at, cell(0, 2, 1)); e != api.ErrNil {
			t.Errorf("Set: %d", e)
		}
		if e := g.Drop(at); e != api.ErrNil {
			t.Errorf("Drop: %d", e)
		}
		if g.Has(at) || len(g.Needs(at)) != 0 || len(g.For(at)) != 0 || len(g.Cells()) != 0 {
			t.Errorf("%t, %v, %v, %v", g.Has(at), g.Needs(at), g.For(at), g.Cells())
		}
	}
}

// P28.1: a graph without cells, also one that New did not make.
func TestEmpty(t *testing.T) {
	for _, g := range []*graph.Graph{graph.New(), {}, graph.Of(api.Book{})} {
		if g == nil {
			t.Fatal("no graph")
		}
		want(t, g)
		for _, at := range append(far(), cell(0, 1, 1)) {
			if e := g.Drop(at); e != api.ErrName {
				t.Errorf("Drop: %d", e)
			}
			if g.Has(at) || len(g.Needs(at)) != 0 || len(g.For(at)) != 0 {
				t.Errorf("%v: %t, %v, %v", at, g.Has(at), g.Needs(at), g.For(at))
			}
		}
		want(t, g)
		set(t, g, "B1", "A1")
		want(t, g, "B1: A1")
		drop(t, g, "B1", api.OK)
		want(t, g)
	}
	a, b := graph.New(), graph.New()
	set(t, a, "B1", "A1")
	want(t, b)
}

// P28.1: what is set.
func TestSet(t *testing.T) {
	g := graph.New()
	set(t, g, "B1", "A1")
	want(t, g, "B1: A1")
	set(t, g, "A1", "")
	want(t, g, "A1:", "B1: A1")
	set(t, g, "C2", "C2")
	want(t, g, "A1:", "B1: A1", "C2: C2")
	set(t, g, "1!A1", "B1 2!A1 A1 B1 1!B1 A2 A1 A1")
	want(t, g, "A1:", "B1: A1", "C2: C2", "1!A1: A1 B1 A2 1!B1 2!A1")
	set(t, g, "B2", "C2 1!A1 B2")
	want(t, g, "A1:", "B1: A1", "B2: B2 C2 1!A1", "C2: C2", "1!A1: A1 B1 A2 1!B1 2!A1")
}

// P28.3: what is set again counts alone.
func TestSetAgain(t *testing.T) {
	g := graph.New()
	set(t, g, "C1", "A1 B1")
	set(t, g, "D1", "A1")
	set(t, g, "C1", "B1 B2")
	want(t, g, "C1: B1 B2", "D1: A1")
	set(t, g, "C1", "B1 B2")
	want(t, g, "C1: B1 B2", "D1: A1")
	set(t, g, "C1", "C1")
	want(t, g, "C1: C1", "D1: A1")
	set(t, g, "C1", "")
	want(t, g, "C1:", "D1: A1")
	set(t, g, "C1", "D1 A1")
	want(t, g, "C1: A1 D1", "D1: A1")
}

// P28.1: what is dropped, also where others need it, and what is set again behind that.
func TestDrop(t *testing.T) {
	g := graph.New()
	set(t, g, "A1", "A1 C1")
	set(t, g, "B1", "A1 C1")
	set(t, g, "D1", "B1")
	drop(t, g, "B1", api.OK)
	want(t, g, "A1: A1 C1", "D1: B1")
	drop(t, g, "B1", api.ErrName)
	drop(t, g, "C1", api.ErrName)
	drop(t, g, "1!A1", api.ErrName)
	want(t, g, "A1: A1 C1", "D1: B1")
	drop(t, g, "A1", api.OK)
	want(t, g, "D1: B1")
	set(t, g, "B1", "D1")
	want(t, g, "B1: D1", "D1: B1")
	drop(t, g, "D1", api.OK)
	drop(t, g, "B1", api.OK)
	want(t, g)
	drop(t, g, "B1", api.ErrName)
	set(t, g, "B1", "A1")
	want(t, g, "B1: A1")
}

// Cells of all kinds have formulas, and are needed, also those that no sheet has.
func TestFar(t *testing.T) {
	g := graph.New()
	for _, at := range far() {
		if e := g.Set(at, far()...); e != api.OK {
			t.Errorf("Set of %v: %d", at, e)
		}
	}
	all := []api.Cell{cell(math.MinInt, math.MaxInt, math.MinInt), cell(-1, 1, 1), {}, cell(0, 0, 1), cell(0, 53, 99), cell(0, 52, 100), cell(math.MaxInt, math.MinInt, math.MaxInt)}
	for _, at := range all {
		if !g.Has(at) || !slices.Equal(g.Needs(at), all) || !slices.Equal(g.For(at), all) {
			t.Errorf("%v: %t, %v, %v", at, g.Has(at), g.Needs(at), g.For(at))
		}
	}
	if !slices.Equal(g.Cells(), all) {
		t.Errorf("Cells: %v", g.Cells())
	}
	for _, at := range all {
		if e := g.Drop(at); e != api.OK || g.Has(at) {
			t.Errorf("Drop of %v: %d", at, e)
		}
	}
	if len(g.Cells()) != 0 || len(g.For(api.Cell{})) != 0 {
		t.Errorf("behind all: %v, %v", g.Cells(), g.For(api.Cell{}))
	}
}

// A list that is handed in is neither changed nor kept; what is answered is nobody else's.
func TestListsAreNew(t *testing.T) {
	g := graph.New()
	l := append(make([]api.Cell, 0, 9), cells(t, "C1 A1 B1 A1")...)
	kept := slices.Clone(l[:9])
	if e := g.Set(cell(0, 4, 1), l...); e != api.OK {
		t.Errorf("Set: %d", e)
	}
	if !slices.Equal(l[:9], kept) {
		t.Errorf("the list that was handed in is %v", l[:9])
	}
	clear(l)
	set(t, g, "E1", "A1")
	for range 2 {
		want(t, g, "D1: A1 B1 C1", "E1: A1")
		for _, told := range [][]api.Cell{g.Needs(cell(0, 4, 1)), g.For(cell(0, 1, 1)), g.Cells(), g.Needs(cell(0, 5, 1))} {
			clear(append(told, cell(0, 3, 3), cell(0, 2, 2)))
			clear(told[:cap(told)])
		}
	}
	set(t, g, "D1", "B1")
	want(t, g, "D1: B1", "E1: A1")
}

// What was told stays as it was when the graph is changed.
func TestToldStays(t *testing.T) {
	g := graph.New()
	set(t, g, "D1", "A1 B1")
	set(t, g, "E1", "A1")
	needs, users, all := g.Needs(cell(0, 4, 1)), g.For(cell(0, 1, 1)), g.Cells()
	set(t, g, "D1", "C1")
	set(t, g, "B1", "A1")
	drop(t, g, "E1", api.OK)
	if !slices.Equal(needs, cells(t, "A1 B1")) || !slices.Equal(users, cells(t, "D1 E1")) || !slices.Equal(all, cells(t, "D1 E1")) {
		t.Errorf("%v, %v, %v", needs, users, all)
	}
}
