package scc_test

import (
	"math/rand"
	"slices"
	"testing"

	"abacist/api"
	"abacist/graph"
	"abacist/grid"
	"abacist/scc"
)

// drawn is a graph of cells of two sheets, some of which have no formula, and those cells in order.
func drawn(c *rand.Rand) (*graph.Graph, []api.Cell) {
	var all []api.Cell
	for i := range 2 + c.Intn(12) {
		all = append(all, api.Cell{Sheet: i / 7, Row: 1 + i%7/3, Col: 1 + i%7%3})
	}
	g := graph.New()
	width := 1 + c.Intn(3)
	for _, i := range c.Perm(len(all)) {
		var l []api.Cell
		for range c.Intn(width + 1) {
			l = append(l, all[c.Intn(len(all))])
		}
		if c.Intn(6) > 0 {
			g.Set(all[i], l...)
		}
	}
	return g, all
}

// leads is which of some cells leads to which: by as many steps as there are cells, at most.
func leads(g *graph.Graph, all []api.Cell) map[[2]api.Cell]int {
	ways := map[[2]api.Cell]int{}
	for _, a := range all {
		for _, b := range g.Needs(a) {
			ways[[2]api.Cell{a, b}] = 1
		}
	}
	for _, mid := range all {
		for _, a := range all {
			for _, b := range all {
				if ways[[2]api.Cell{a, mid}]*ways[[2]api.Cell{mid, b}] > 0 {
					ways[[2]api.Cell{a, b}] = 1
				}
			}
		}
	}
	return ways
}

// P29.1, P29.2: the parts of drawn graphs are the cells that lead to each other.
func TestByChance(t *testing.T) {
	c := rand.New(rand.NewSource(29))
	circles, alone := 0, 0
	for range 3000 {
		g, all := drawn(c)
		ways := leads(g, all)
		var want, round [][]api.Cell
		for _, a := range all {
			var part []api.Cell
			for _, b := range all {
				if g.Has(a) && g.Has(b) && (a == b || ways[[2]api.Cell{a, b}]*ways[[2]api.Cell{b, a}] > 0) {
					part = append(part, b)
				}
			}
			if got := scc.Part(g, a); !slices.Equal(got, part) {
				t.Fatalf("Part of %v: %v, want %v", a, got, part)
			}
			if len(part) > 0 && part[0] == a {
				want = append(want, part)
				if len(part) > 1 || slices.Contains(g.Needs(a), a) {
					round = append(round, part)
				}
			}
			if len(part) > 1 {
				circles++
			} else {
				alone++
			}
		}
		if got := scc.Of(g); !slices.EqualFunc(got, want, slices.Equal) {
			t.Fatalf("Of: %v, want %v", got, want)
		}
		if got := scc.Circles(g); !slices.EqualFunc(got, round, slices.Equal) {
			t.Fatalf("Circles: %v, want %v", got, round)
		}
		for _, part := range want {
			if scc.Circular(g, part...) != slices.ContainsFunc(round, func(l []api.Cell) bool { return l[0] == part[0] }) {
				t.Fatalf("Circular of %v", part)
			}
		}
	}
	if circles < 1000 || alone < 1000 {
		t.Errorf("%d cells on circles of several, %d others", circles, alone)
	}
}

// P29.2: what Of tells of drawn graphs of more cells: each cell once, in order, and no two parts that lead to each other.
func TestFollowsByChance(t *testing.T) {
	c := rand.New(rand.NewSource(292))
	for range 300 {
		g, all := drawn(c)
		ways := leads(g, all)
		var told []api.Cell
		parts := scc.Of(g)
		for i, part := range parts {
			told = append(told, part...)
			if i > 0 && !grid.Less(parts[i-1][0], part[0]) {
				t.Fatalf("%v behind %v", part, parts[i-1])
			}
			for _, other := range parts[i+1:] {
				if ways[[2]api.Cell{part[0], other[0]}]*ways[[2]api.Cell{other[0], part[0]}] > 0 {
					t.Fatalf("%v and %v lead to each other", part, other)
				}
			}
		}
		slices.SortFunc(told, func(a, b api.Cell) int {
			if grid.Less(a, b) {
				return -1
			}
			return 1
		})
		if !slices.Equal(told, g.Cells()) {
			t.Fatalf("%v, cells are %v", told, g.Cells())
		}
	}
}
