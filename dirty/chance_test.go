package dirty_test

import (
	"math/rand"
	"slices"
	"testing"

	"abacist/api"
	"abacist/dirty"
	"abacist/graph"
)

// drawn is a graph of cells of two sheets, and these cells in order; some have no formula, and the fewer need any one, the fewer circles there are.
func drawn(c *rand.Rand) (*graph.Graph, []api.Cell) {
	var all []api.Cell
	for i := range 2 + c.Intn(14) {
		all = append(all, api.Cell{Sheet: i / 8, Row: 1 + i%8/3, Col: 1 + i%8%3})
	}
	g := graph.New()
	ranks, back, most := c.Perm(len(all)), c.Intn(4), 2+c.Intn(3)
	for _, i := range c.Perm(len(all)) {
		var l []api.Cell
		for range c.Intn(most) {
			j := c.Intn(len(all))
			if ranks[j] < ranks[i] || c.Intn(12) < back {
				l = append(l, all[j])
			}
		}
		if c.Intn(6) > 0 {
			g.Set(all[i], l...)
		}
	}
	return g, all
}

// some are a few of all cells, also twice.
func some(c *rand.Rand, all []api.Cell) []api.Cell {
	var l []api.Cell
	for range c.Intn(4) {
		l = append(l, all[c.Intn(len(all))])
	}
	return l
}

// ways is which cells lead to which, told from what they need step by step, with ever more cells allowed between.
func ways(g *graph.Graph, all []api.Cell) map[[2]api.Cell]struct{} {
	leads := map[[2]api.Cell]struct{}{}
	for _, a := range all {
		for _, b := range g.Needs(a) {
			leads[[2]api.Cell{a, b}] = struct{}{}
		}
	}
	for _, mid := range all {
		for _, a := range all {
			for _, b := range all {
				_, first := leads[[2]api.Cell{a, mid}]
				_, second := leads[[2]api.Cell{mid, b}]
				if first && second {
					leads[[2]api.Cell{a, b}] = struct{}{}
				}
			}
		}
	}
	return leads
}

// model is what Behind, Tainted and Closure of l are, told cell by cell from which ones lead to which.
func model(g *graph.Graph, all, l []api.Cell) (behind, tainted, closure []api.Cell) {
	leads := ways(g, all)
	for _, at := range all {
		if !g.Has(at) {
			continue
		}
		isBehind := slices.Contains(l, at)
		for _, target := range l {
			_, way := leads[[2]api.Cell{at, target}]
			isBehind = isBehind || way
		}
		isTainted := false
		for _, target := range all {
			_, way := leads[[2]api.Cell{at, target}]
			_, circle := leads[[2]api.Cell{target, target}]
			isTainted = isTainted || circle && (way || at == target)
		}
		if isBehind {
			behind = append(behind, at)
		}
		if isTainted {
			tainted = append(tainted, at)
		}
		if isBehind || isTainted {
			closure = append(closure, at)
		}
	}
	return behind, tainted, closure
}

// P31.1, P31.2, P31.3: drawn graphs, and cells of them.
func TestByChance(t *testing.T) {
	c := rand.New(rand.NewSource(31))
	apart := 0
	for range 2500 {
		g, all := drawn(c)
		l := some(c, all)
		handed := slices.Clone(l)
		behind, tainted, closure := model(g, all, l)
		want(t, "Behind", dirty.Behind(g, l...), behind)
		want(t, "Tainted", dirty.Tainted(g), tainted)
		want(t, "Closure", dirty.Closure(g, l...), closure)
		want(t, "Closure of none", dirty.Closure(g), tainted)
		want(t, "what was handed in", l, handed)
		if t.Failed() {
			t.Fatalf("of %v", l)
		}
		if len(closure) > max(len(behind), len(tainted)) && len(tainted) > 0 && len(closure) < len(g.Cells()) {
			apart++
		}
	}
	if apart < 100 {
		t.Errorf("just %d graphs whose circles and cells are apart", apart)
	}
}

// P31.2, P31.3: what follows, of what is told itself.
func TestFollowsByChance(t *testing.T) {
	c := rand.New(rand.NewSource(312))
	for range 1000 {
		g, all := drawn(c)
		l, other := some(c, all), some(c, all)
		behind, tainted, closure := dirty.Behind(g, l...), dirty.Tainted(g), dirty.Closure(g, l...)
		for _, told := range [][]api.Cell{behind, tainted, closure} {
			want(t, "Behind of Behind", dirty.Behind(g, told...), told)
		}
		want(t, "Closure of Behind", dirty.Closure(g, behind...), closure)
		want(t, "Closure of Closure", dirty.Closure(g, closure...), closure)
		for _, at := range all {
			either := slices.Contains(behind, at) || slices.Contains(tainted, at)
			if slices.Contains(closure, at) != either {
				t.Fatalf("%v is in one of %v and %v: %t, not so in %v", at, behind, tainted, either, closure)
			}
		}
		both := dirty.Behind(g, slices.Concat(l, other)...)
		want(t, "Behind of two lists", dirty.Behind(g, slices.Concat(behind, dirty.Behind(g, other...))...), both)
	}
}
