package grid_test

import (
	"math"
	"math/rand"
	"slices"
	"strconv"
	"testing"

	"abacist/api"
	"abacist/grid"
)

func cell(sheet, col, row int) api.Cell { return api.Cell{Sheet: sheet, Col: col, Row: row} }

// some are entries in order: B1, A2 and C2 of sheet 0, A1 of sheet 1.
func some() []api.Entry {
	return []api.Entry{{At: cell(0, 2, 1), Text: "b"}, {At: cell(0, 1, 2), Text: "1", Val: ratio(1, 1)}, {At: cell(0, 3, 2), Text: "=A1"}, {At: cell(1, 1, 1), Text: "d"}}
}

// P25.2: cells of entries are found, others have a place ahead of, between or behind them.
func TestFind(t *testing.T) {
	for at, want := range map[api.Cell]struct {
		place int
		found bool
	}{
		cell(0, 1, 1):                     {0, false},
		cell(0, 2, 1):                     {0, true},
		cell(0, 3, 1):                     {1, false},
		cell(0, 52, 1):                    {1, false},
		cell(0, 1, 2):                     {1, true},
		cell(0, 2, 2):                     {2, false},
		cell(0, 3, 2):                     {2, true},
		cell(0, 4, 2):                     {3, false},
		cell(0, 1, 99):                    {3, false},
		cell(1, 1, 1):                     {3, true},
		cell(1, 2, 1):                     {4, false},
		cell(2, 1, 1):                     {4, false},
		cell(-1, 52, 99):                  {0, false},
		cell(math.MaxInt, 0, 0):           {4, false},
		cell(math.MinInt, 0, math.MaxInt): {0, false},
	} {
		if place, found := grid.Find(some(), at); place != want.place || found != want.found {
			t.Errorf("Find of %v: %d, %t", at, place, found)
		}
		if place, found := grid.Find(nil, at); place != 0 || found {
			t.Errorf("Find of %v in nothing: %d, %t", at, place, found)
		}
	}
}

// In a list that is out of order the first entry of a cell counts, wherever it is, or the first one that is not ahead.
func TestFindOutOfOrder(t *testing.T) {
	l := []api.Entry{{At: cell(0, 2, 1)}, {At: cell(0, 5, 1)}, {At: cell(0, 1, 1)}, {At: cell(0, 2, 1), Text: "again"}, {At: cell(0, 1, 1), Text: "again"}}
	for at, want := range map[api.Cell]struct {
		place int
		found bool
	}{cell(0, 1, 1): {2, true}, cell(0, 2, 1): {0, true}, cell(0, 3, 1): {1, false}, cell(0, 5, 1): {1, true}, cell(0, 6, 1): {5, false}, cell(-1, 1, 1): {0, false}} {
		if place, found := grid.Find(l, at); place != want.place || found != want.found {
			t.Errorf("Find of %v: %d, %t", at, place, found)
		}
	}
}

// P25.2: Put puts in place, or at the place; Drop takes out the entry that Find tells.
func TestPutAndDrop(t *testing.T) {
	for range 2 {
		l := some()
		for i, e := range l {
			fresh := api.Entry{At: e.At, Text: "new", Val: truth(true)}
			want := some()
			want[i] = fresh
			if got := grid.Put(l, fresh); !slices.Equal(got, want) {
				t.Errorf("Put of %v: %v", fresh, got)
			}
			if got := grid.Drop(l, e.At); !slices.Equal(got, slices.Delete(some(), i, i+1)) {
				t.Errorf("Drop of %v: %v", e.At, got)
			}
		}
		for i, at := range []api.Cell{cell(0, 1, 1), cell(0, 9, 1), cell(0, 2, 2), cell(0, 1, 3), cell(1, 1, 2)} {
			fresh := api.Entry{At: at, Text: "new"}
			if got := grid.Put(l, fresh); !slices.Equal(got, slices.Insert(some(), i, fresh)) {
				t.Errorf("Put of %v: %v", fresh, got)
			}
			if got := grid.Drop(l, at); !slices.Equal(got, some()) {
				t.Errorf("Drop of %v: %v", at, got)
			}
		}
		if !slices.Equal(l, some()) {
			t.Errorf("changed: %v", l)
		}
	}
	one := api.Entry{At: cell(0, 1, 1)}
	if got := grid.Put(nil, one); !slices.Equal(got, []api.Entry{one}) {
		t.Errorf("Put to nothing: %v", got)
	}
	if got := grid.Drop(nil, one.At); len(got) != 0 {
		t.Errorf("Drop of nothing: %v", got)
	}
	if got := grid.Drop([]api.Entry{one}, one.At); len(got) != 0 {
		t.Errorf("Drop of all: %v", got)
	}
}

// Of a cell that is there twice just the first entry is put, or dropped.
func TestTwice(t *testing.T) {
	a, b := api.Entry{At: cell(0, 1, 1), Text: "a"}, api.Entry{At: cell(0, 2, 1), Text: "b"}
	again, fresh := api.Entry{At: a.At, Text: "again"}, api.Entry{At: a.At, Text: "fresh"}
	if got := grid.Put([]api.Entry{b, a, again}, fresh); !slices.Equal(got, []api.Entry{b, fresh, again}) {
		t.Errorf("Put: %v", got)
	}
	if got := grid.Drop([]api.Entry{b, a, again}, a.At); !slices.Equal(got, []api.Entry{b, again}) {
		t.Errorf("Drop: %v", got)
	}
}

// What is answered shares no memory with what was handed in, also where that has room behind it.
func TestListsAreNew(t *testing.T) {
	room := append(make([]api.Entry, 0, 20), some()...)
	behind := room[:cap(room)]
	other := api.Entry{At: cell(0, 9, 9), Text: "other"}
	for _, at := range []api.Cell{cell(0, 1, 1), cell(0, 2, 1), cell(0, 2, 2), cell(1, 1, 1), cell(5, 1, 1)} {
		for _, l := range [][]api.Entry{grid.Put(room, api.Entry{At: at}), grid.Drop(room, at)} {
			for i := range l {
				l[i] = other
			}
			l = append(l, other, other)
			if !slices.Equal(room, some()) || behind[len(room)] != (api.Entry{}) {
				t.Fatalf("%v: what is written into %v is seen", at, l)
			}
		}
	}
}

// P25.4: Put and Drop keep entries in order, each cell once, as a map has them.
func TestListsByChance(t *testing.T) {
	c := rand.New(rand.NewSource(4))
	has := map[api.Cell]string{}
	var l []api.Entry
	for i := range 5000 {
		at := cell(c.Intn(3)-1, c.Intn(4), c.Intn(4))
		_, there := has[at]
		if place, found := grid.Find(l, at); found != there || found && l[place].At != at {
			t.Fatalf("Find of %v in %v: %d, %t", at, l, place, found)
		}
		if c.Intn(2) == 0 {
			l = grid.Drop(l, at)
			delete(has, at)
		} else {
			l = grid.Put(l, api.Entry{At: at, Text: strconv.Itoa(i)})
			has[at] = strconv.Itoa(i)
		}
		if len(l) != len(has) {
			t.Fatalf("%v, want %v", l, has)
		}
		for j, e := range l {
			if has[e.At] != e.Text || j > 0 && !grid.Less(l[j-1].At, e.At) {
				t.Fatalf("out of order, or another one at %d: %v", j, l)
			}
		}
	}
}
