package rewrite

import (
	"abacist/api"
	"abacist/ref"
)

// step is so many columns and rows.
type step struct {
	cols int
	rows int
}

// move is r so far on, where it is not fixed.
func (s step) move(r api.Ref) (api.Ref, bool) { return ref.Move(r, s.cols, s.rows) }

// naming is a sheet's old name, and its fresh one.
type naming struct {
	old   string
	fresh string
}

// rename is r with the fresh name, if it has the old one; it always follows.
func (n naming) rename(r api.Ref) (api.Ref, bool) {
	if r.Sheet == n.old && n.old != "" {
		r.Sheet = n.fresh
	}
	return r, true
}

// place is a sheet's name, as a formula sees it whose own sheet has another name, or that.
type place struct {
	own   string
	sheet string
}

// has is whether r, that may be an area's first end, is to the sheet.
func (p place) has(r api.Ref) bool {
	return r.Sheet == p.sheet || r.Sheet == "" && p.own == p.sheet
}

// isIn is whether n has a reference to the sheet.
func (p place) isIn(n api.Node) bool {
	return (n.Kind == api.NdCell || n.Kind == api.NdArea) && p.has(n.Ref)
}

// change is columns or rows that a sheet got, or lost, and what becomes of references to it then.
type change struct {
	place
	way        int
	at         int
	n          int
	followOne  func(r api.Ref, way, at, n int) (api.Ref, bool)
	followBoth func(from, to api.Ref, way, at, n int) (api.Ref, api.Ref, bool)
}

// canBe is whether there is such a way, that has so many columns or rows.
func (c change) canBe() bool {
	last := 0
	switch c.way {
	case ref.Cols:
		last = api.MaxCol
	case ref.Rows:
		last = api.MaxRow
	}
	return 1 <= c.at && c.at <= last && 1 <= c.n && c.n <= last
}

// cell is r behind the change, if it is to its sheet.
func (c change) cell(r api.Ref) (api.Ref, bool) {
	if !c.has(r) {
		return r, true
	}
	return c.followOne(r, c.way, c.at, c.n)
}

// area is both ends of an area behind the change, if it is to its sheet: the first end tells that.
func (c change) area(from, to api.Ref) (api.Ref, api.Ref, bool) {
	if !c.has(from) {
		return from, to, true
	}
	return c.followBoth(from, to, c.way, c.at, c.n)
}
