package sheets

import (
	"abacist/api"
	"abacist/grid"
	"abacist/rat"
	"abacist/ref"
	"abacist/value"
)

// Right is whether b can be.
func Right(b api.Book) bool {
	return rightSheets(b.Sheets) && rightRule(b) && rightCells(b) && rightScens(b.Scens)
}

// rightSheets is whether a book can have these sheets: one at least, not too many, each named as it can be, and once.
func rightSheets(l []string) bool {
	if len(l) == 0 || len(l) > api.MaxSheets {
		return false
	}
	for _, name := range l {
		if !ref.Named(name) {
			return false
		}
	}
	return eachOnce(len(l), func(i, j int) bool { return l[i] == l[j] })
}

// rightRule is whether circles can be swept so often, up to such a difference.
func rightRule(b api.Book) bool {
	return 0 <= b.Max && b.Max <= api.MaxIter && rat.Right(b.Eps) && rat.Sign(b.Eps) >= 0
}

// rightCells is whether b's sheets can have b's cells: not too many, in order, and each of them right.
func rightCells(b api.Book) bool {
	if len(b.Cells) > api.MaxCells {
		return false
	}
	for i, entry := range b.Cells {
		if i > 0 && !grid.Less(b.Cells[i-1].At, entry.At) {
			return false
		}
		if !has(b, entry.At) || !rightEntry(entry) {
			return false
		}
	}
	return true
}

// rightEntry is whether an entry has a content that is kept so, and a value that goes with it.
func rightEntry(entry api.Entry) bool {
	content, e := grid.Read(entry.Text)
	switch {
	case e != api.OK, content.Text != entry.Text, entry.Text == "":
		return false
	case content.Formula:
		return value.Right(entry.Val)
	}
	return entry.Val == content.Val
}

// rightScens is whether a book can have these scenarios: not too many, named as sheets can be, in the order of their names.
func rightScens(l []api.Scen) bool {
	if len(l) > api.MaxScens {
		return false
	}
	for i, s := range l {
		if i > 0 && l[i-1].Name >= s.Name {
			return false
		}
		if !ref.Named(s.Name) || !rightSets(s.Sets) {
			return false
		}
	}
	return true
}

// rightSets is whether a scenario can set these cells: one at least, not too many, each one right, and once.
func rightSets(l []api.Set) bool {
	if len(l) == 0 || len(l) > api.MaxSets {
		return false
	}
	for _, s := range l {
		if !rightSet(s) {
			return false
		}
	}
	return addressesOnce(l)
}

// rightSet is whether a scenario can set a cell so: its address has a sheet's name and no $, its content is kept so.
func rightSet(s api.Set) bool {
	r, e := ref.Parse(s.At)
	if e != api.OK || r.Sheet == "" || r.FixCol || r.FixRow {
		return false
	}
	content, e := grid.Read(s.Text)
	return e == api.OK && content.Text == s.Text
}

// addressesOnce is whether no cell is set twice.
func addressesOnce(l []api.Set) bool {
	return eachOnce(len(l), func(i, j int) bool { return l[i].At == l[j].At })
}

// eachOnce is whether no two of n things are the same one, as a function tells by their places.
func eachOnce(n int, same func(i, j int) bool) bool {
	for i := range n {
		for j := range i {
			if same(i, j) {
				return false
			}
		}
	}
	return true
}
