package topo_test

import (
	"math/rand"
	"slices"
	"testing"

	"abacist/api"
	"abacist/graph"
	"abacist/scc"
	"abacist/topo"
)

// drawn is a graph of cells of two sheets, some of which have no formula; with few circles, or with more.
func drawn(c *rand.Rand) *graph.Graph {
	var all []api.Cell
	for i := range 2 + c.Intn(14) {
		all = append(all, api.Cell{Sheet: i / 8, Row: 1 + i%8/3, Col: 1 + i%8%3})
	}
	g := graph.New()
	ranks := c.Perm(len(all))
	width, back := 1+c.Intn(3), c.Intn(5)
	for _, i := range c.Perm(len(all)) {
		var l []api.Cell
		for range c.Intn(width + 1) {
			j := c.Intn(len(all))
			// Where just what has a lower rank is needed there is no circle.
			if ranks[j] < ranks[i] || c.Intn(12) < back {
				l = append(l, all[j])
			}
		}
		if c.Intn(7) > 0 {
			g.Set(all[i], l...)
		}
	}
	return g
}

// needs is whether a part needs another one.
func needs(g *graph.Graph, part, other []api.Cell) bool {
	for _, at := range other {
		for _, user := range g.For(at) {
			if slices.Contains(part, user) {
				return part[0] != other[0]
			}
		}
	}
	return false
}

// next is the place of the first part that needs none of the others that are left.
func next(g *graph.Graph, left [][]api.Cell) int {
	return slices.IndexFunc(left, func(part []api.Cell) bool {
		return !slices.ContainsFunc(left, func(other []api.Cell) bool { return needs(g, part, other) })
	})
}

// deep is how many parts need each other one by one, from a part on.
func deep(g *graph.Graph, part []api.Cell, all [][]api.Cell) int {
	below := 0
	for _, other := range all {
		if needs(g, part, other) {
			below = max(below, deep(g, other, all))
		}
	}
	return below + 1
}

// P30.1, P30.2, P30.3: the order of drawn graphs is that in which the first part that can be is taken each time, and their depth is that of their longest row.
func TestByChance(t *testing.T) {
	c := rand.New(rand.NewSource(30))
	otherwise, deeper := 0, 0
	for range 2000 {
		g := drawn(c)
		all := scc.Of(g)
		depth := 0
		for _, part := range all {
			depth = max(depth, deep(g, part, all))
		}
		got := topo.Order(g)
		if topo.Depth(g) != depth || depth > len(all) {
			t.Fatalf("Depth: %d, want %d", topo.Depth(g), depth)
		}
		var want [][]api.Cell
		for left := slices.Clone(all); len(left) > 0; {
			i := next(g, left)
			want = append(want, left[i])
			left = slices.Delete(left, i, i+1)
		}
		if !slices.EqualFunc(got, want, slices.Equal) {
			t.Fatalf("Order: %v, want %v", got, want)
		}
		if !slices.EqualFunc(got, all, slices.Equal) {
			otherwise++
		}
		if depth > 3 {
			deeper++
		}
	}
	if otherwise < 500 || deeper < 200 {
		t.Errorf("%d orders are not that of the first cells, %d graphs are deep", otherwise, deeper)
	}
}
