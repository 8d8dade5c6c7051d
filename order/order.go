// Package order has what the packages share that tell cells in their order.
package order

import (
	"slices"

	"abacist/api"
	"abacist/grid"
)

// Once is the cells of l in order, each once, as a list of its own.
func Once(l []api.Cell) []api.Cell {
	fresh := slices.Clone(l)
	slices.SortFunc(fresh, func(a, b api.Cell) int {
		switch {
		case grid.Less(a, b):
			return -1
		case grid.Less(b, a):
			return 1
		}
		return 0
	})
	return slices.Compact(fresh)
}
