package graph_test

import (
	"math/rand"
	"slices"
	"testing"

	"abacist/addr"
	"abacist/api"
	"abacist/graph"
	"abacist/prec"
	"abacist/sheets"
)

// model is the edges of a graph one by one: from a cell to one that it needs; and the cells with formulas.
type model struct {
	edges map[[2]api.Cell]int
	cells map[api.Cell]int
}

func (m model) drop(at api.Cell) {
	for edge := range m.edges {
		if edge[0] == at {
			delete(m.edges, edge)
		}
	}
	delete(m.cells, at)
}

func (m model) set(at api.Cell, l []api.Cell) {
	m.drop(at)
	m.cells[at]++
	for _, need := range l {
		m.edges[[2]api.Cell{at, need}]++
	}
}

// some are the cells that a model has.
func some() []api.Cell {
	a := addr.Area{Col1: 1, Row1: 1, Col2: 3, Row2: 2}
	return append(a.Cells(0), a.Cells(1)...)
}

// hold holds a graph against a model, cell by cell, these being in order.
func (m model) hold(t *testing.T, g *graph.Graph) {
	t.Helper()
	var all []api.Cell
	for _, at := range some() {
		var needs, users []api.Cell
		for _, other := range some() {
			if m.edges[[2]api.Cell{at, other}] > 0 {
				needs = append(needs, other)
			}
			if m.edges[[2]api.Cell{other, at}] > 0 {
				users = append(users, other)
			}
		}
		if got := g.Needs(at); !slices.Equal(got, needs) {
			t.Fatalf("Needs of %v: %v, want %v", at, got, needs)
		}
		if got := g.For(at); !slices.Equal(got, users) {
			t.Fatalf("For of %v: %v, want %v", at, got, users)
		}
		if g.Has(at) != (m.cells[at] > 0) {
			t.Fatalf("Has of %v: %t", at, g.Has(at))
		}
		if m.cells[at] > 0 {
			all = append(all, at)
		}
	}
	if got := g.Cells(); !slices.Equal(got, all) {
		t.Fatalf("Cells: %v, want %v", got, all)
	}
}

// draw is one of some.
func draw(c *rand.Rand) api.Cell { return some()[c.Intn(len(some()))] }

// drawn are some of them, also twice.
func drawn(c *rand.Rand) []api.Cell {
	var l []api.Cell
	for range c.Intn(7) {
		l = append(l, draw(c))
	}
	return l
}

// P28.1, P28.2: graphs that are changed again and again, held against their edges.
func TestByChance(t *testing.T) {
	c := rand.New(rand.NewSource(28))
	lost := 0
	for range 60 {
		g, m := graph.New(), model{map[[2]api.Cell]int{}, map[api.Cell]int{}}
		for range 60 {
			at := draw(c)
			if c.Intn(3) > 0 {
				l := drawn(c)
				m.set(at, l)
				if e := g.Set(at, l...); e != api.OK {
					t.Fatalf("Set: %d", e)
				}
			} else {
				want := api.OK
				if m.cells[at] == 0 {
					want = api.ErrName
					lost++
				}
				m.drop(at)
				if e := g.Drop(at); e != want {
					t.Fatalf("Drop: %d, want %d", e, want)
				}
			}
			m.hold(t, g)
		}
	}
	if lost < 100 {
		t.Errorf("just %d cells without a formula were dropped", lost)
	}
}

// P28.3: cells that are set in any order are the same graph.
func TestOrderByChance(t *testing.T) {
	c := rand.New(rand.NewSource(283))
	for range 200 {
		m := model{map[[2]api.Cell]int{}, map[api.Cell]int{}}
		needs := map[api.Cell][]api.Cell{}
		for _, at := range some() {
			if c.Intn(3) > 0 {
				needs[at] = drawn(c)
				m.set(at, needs[at])
			}
		}
		for range 4 {
			g := graph.New()
			all := some()
			c.Shuffle(len(all), func(i, j int) { all[i], all[j] = all[j], all[i] })
			for _, at := range all {
				if c.Intn(3) == 0 && m.cells[at] > 0 {
					g.Set(at, drawn(c)...)
				}
			}
			for _, at := range all {
				if m.cells[at] > 0 {
					c.Shuffle(len(needs[at]), func(i, j int) { needs[at][i], needs[at][j] = needs[at][j], needs[at][i] })
					g.Set(at, needs[at]...)
				}
			}
			m.hold(t, g)
		}
	}
}

// P28.1: Of a book is a graph in which what prec.Book tells was set.
func TestOfByChance(t *testing.T) {
	c := rand.New(rand.NewSource(281))
	names := []string{"One", "two"}
	for range 100 {
		b := sheets.New()
		b.Sheets = names
		for _, at := range some() {
			text := []string{"", "1", "=1"}[c.Intn(3)]
			for i, need := range drawn(c) {
				if i == 0 {
					text = "=1"
				}
				text += "+" + names[need.Sheet] + "!" + addr.Text(need.Col, need.Row) + "*SUM(" + addr.Text(need.Col, need.Row) + ":B1)"
			}
			var e api.Errno
			if b, e = sheets.Set(b, at, text); e != api.OK {
				t.Fatalf("%s: %d", text, e)
			}
		}
		m := model{map[[2]api.Cell]int{}, map[api.Cell]int{}}
		all, needs := prec.Book(b)
		for i, at := range all {
			m.set(at, needs[i])
		}
		m.hold(t, graph.Of(b))
	}
}
