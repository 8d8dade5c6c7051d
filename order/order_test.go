package order_test

import (
	"math"
	"math/rand"
	"slices"
	"testing"

	"abacist/api"
	"abacist/grid"
	"abacist/order"
)

func cell(sheet, col, row int) api.Cell { return api.Cell{Sheet: sheet, Col: col, Row: row} }

func TestOnce(t *testing.T) {
	if l := order.Once(nil); len(l) != 0 {
		t.Errorf("of nothing: %v", l)
	}
	l := []api.Cell{cell(1, 1, 1), cell(0, 1, 2), cell(0, 2, 1), cell(0, 2, 1), cell(-1, 9, 9), cell(1, 1, 1), cell(0, math.MinInt, math.MaxInt), cell(0, 1, 1), cell(math.MaxInt, 1, 1)}
	kept := slices.Clone(l)
	want := []api.Cell{cell(-1, 9, 9), cell(0, 1, 1), cell(0, 2, 1), cell(0, 1, 2), cell(0, math.MinInt, math.MaxInt), cell(1, 1, 1), cell(math.MaxInt, 1, 1)}
	if got := order.Once(l); !slices.Equal(got, want) {
		t.Errorf("%v, want %v", got, want)
	}
	if !slices.Equal(l, kept) {
		t.Errorf("the list that was handed in is %v", l)
	}
}

// A list that is in order already is answered as another one, too.
func TestOnceIsNew(t *testing.T) {
	l := append(make([]api.Cell, 0, 9), cell(0, 1, 1), cell(0, 2, 1))
	got := order.Once(l)
	_ = append(got, cell(9, 9, 9))
	got[0] = cell(8, 8, 8)
	if behind := l[:3]; !slices.Equal(behind, []api.Cell{cell(0, 1, 1), cell(0, 2, 1), {}}) {
		t.Errorf("the list that was handed in is %v", behind)
	}
}

// Once, held against one that puts cell by cell where it belongs.
func TestOnceByChance(t *testing.T) {
	c := rand.New(rand.NewSource(1))
	for range 500 {
		var l, want []api.Cell
		for range c.Intn(60) {
			l = append(l, cell(c.Intn(3)-1, c.Intn(4), c.Intn(4)))
		}
		for _, at := range l {
			place := 0
			for place < len(want) && grid.Less(want[place], at) {
				place++
			}
			if place == len(want) || want[place] != at {
				want = slices.Insert(want, place, at)
			}
		}
		if got := order.Once(l); !slices.Equal(got, want) {
			t.Fatalf("Once of %v: %v, want %v", l, got, want)
		}
	}
}
