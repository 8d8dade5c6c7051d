package sheets_test

import (
	"math"
	"reflect"
	"slices"
	"strconv"
	"strings"
	"testing"

	"abacist/api"
	"abacist/sheets"
)

// n is a whole number from 0 to 255.
func n(a byte) api.Value {
	r := api.Rat{Den: "\x01"}
	if a != 0 {
		r.Num = string([]byte{a})
	}
	return api.Value{Kind: api.Number, Num: r}
}

func text(s string) api.Value { return api.Value{Kind: api.Text, Text: s} }
func truth(b bool) api.Value  { return api.Value{Kind: api.Truth, Truth: b} }
func fault(n int) api.Value   { return api.Value{Kind: api.Fault, Fault: n} }

func cell(sheet, col, row int) api.Cell { return api.Cell{Sheet: sheet, Col: col, Row: row} }

// book is a book that can be, in which there is some of all.
func book() api.Book {
	return api.Book{
		Sheets: []string{"Sheet_1", "b", "empty"},
		Cells: []api.Entry{
			{At: cell(0, 1, 1), Text: "1", Val: n(1)},
			{At: cell(0, 2, 1), Text: "=A1+b!A1", Val: n(3)},
			{At: cell(0, 1, 2), Text: "'12", Val: text("12")},
			{At: cell(0, 52, 99), Text: "TRUE", Val: truth(true)},
			{At: cell(1, 1, 1), Text: "=Sheet_1!A1&\"b!A1\"", Val: fault(7)},
			{At: cell(1, 3, 2), Text: "=SUM(b!A1:B2,gone!A1)"},
			{At: cell(1, 1, 3), Text: "b!A1", Val: text("b!A1")},
		},
		Iter: true,
		Max:  7,
		Eps:  api.Rat{Num: "\x01", Den: "\x02"},
		Scens: []api.Scen{
			{Name: "high", Sets: []api.Set{{At: "b!A1", Text: "5"}, {At: "Sheet_1!A1", Text: "=b!A1"}, {At: "b!A2"}}},
			{Name: "low", Sets: []api.Set{{At: "gone!B2", Text: "'"}}},
		},
	}
}

// empty is a book of some sheets without cells.
func empty(names ...string) api.Book {
	return api.Book{Sheets: names, Max: 100, Eps: n(0).Num}
}

// full is a book with so many cells.
func full(cells int) api.Book {
	b := empty("a", "b")
	for i := range cells {
		b.Cells = append(b.Cells, api.Entry{At: cell(i/200, i%10+1, i%200/10+1), Text: "1", Val: n(1)})
	}
	return b
}

// clone is a book that is alike, and shares nothing.
func clone(b api.Book) api.Book {
	b.Sheets, b.Cells, b.Scens = slices.Clone(b.Sheets), slices.Clone(b.Cells), slices.Clone(b.Scens)
	for i := range b.Scens {
		b.Scens[i].Sets = slices.Clone(b.Scens[i].Sets)
	}
	return b
}

// alike is whether two books have the same in all fields, nothing being the same as an empty list.
func alike(a, b api.Book) bool {
	full := func(b api.Book) api.Book {
		b.Sheets, b.Cells, b.Scens = append([]string{}, b.Sheets...), append([]api.Entry{}, b.Cells...), append([]api.Scen{}, b.Scens...)
		for i := range b.Scens {
			b.Scens[i].Sets = append([]api.Set{}, b.Scens[i].Sets...)
		}
		return b
	}
	return reflect.DeepEqual(full(a), full(b))
}

// zero is whether nothing is in a book.
func zero(b api.Book) bool { return alike(b, api.Book{}) }

// names are so many names of sheets.
func names(many int) []string {
	var l []string
	for i := range many {
		l = append(l, "s"+string(rune('a'+i)))
	}
	return l
}

// badNames can be no sheet's.
func badNames() []string {
	return []string{"", "A1", "a1", "zz999", "1a", "_a", "true", "TRUE", "False", "a b", "a!", "$a", "a-b", "é", "abcdefghijklm", "a\n", " a", strings.Repeat("a", 1000)}
}

// outside are cells that no book of so many sheets has.
func outside(many int) []api.Cell {
	l := []api.Cell{cell(-1, 1, 1), cell(many, 1, 1), cell(math.MinInt, 1, 1), cell(math.MaxInt, 1, 1)}
	for _, at := range [][2]int{{0, 1}, {1, 0}, {53, 1}, {1, 100}, {53, 100}, {0, 0}, {-1, -1}, {math.MinInt, math.MaxInt}, {1, math.MaxInt}, {math.MaxInt, 1}, {1, math.MinInt}} {
		l = append(l, cell(0, at[0], at[1]), cell(many-1, at[0], at[1]))
	}
	return l
}

// wrong are books that can not be, by what is wrong with them.
func wrong() map[string]api.Book {
	l := map[string]api.Book{"nothing": {}}
	add := func(what string, change func(b *api.Book)) {
		b := book()
		change(&b)
		l[what] = b
	}
	add("no sheet", func(b *api.Book) { b.Sheets, b.Cells = nil, nil })
	add("seven sheets", func(b *api.Book) { b.Sheets = append(b.Sheets, names(4)...) })
	add("a sheet twice", func(b *api.Book) { b.Sheets[2] = "Sheet_1" })
	add("a sheet twice at once", func(b *api.Book) { b.Sheets[2] = "b" })
	for _, name := range badNames() {
		add("a sheet "+name, func(b *api.Book) { b.Sheets[2] = name })
		add("a scenario "+name, func(b *api.Book) { b.Scens = b.Scens[:1]; b.Scens[0].Name = name })
	}
	for _, most := range []int{-1, 101, math.MinInt, math.MaxInt} {
		add("Max "+strconv.Itoa(most), func(b *api.Book) { b.Max = most })
	}
	long := "\x01" + strings.Repeat("\x00", 32)
	for what, eps := range map[string]api.Rat{"zero": {}, "no Num": {Den: "\x02"}, "no Den": {Num: "\x01"}, "2/4": {Num: "\x02", Den: "\x04"}, "-1/2": {Neg: true, Num: "\x01", Den: "\x02"}, "-0": {Neg: true, Den: "\x01"}, "a 0 ahead": {Num: "\x00\x01", Den: "\x02"}, "257 bits": {Num: long, Den: "\x01"}, "1 by 257 bits": {Num: "\x01", Den: long}} {
		add("Eps "+what, func(b *api.Book) { b.Eps = eps })
	}
	wrongCells(add)
	wrongScens(add)
	return l
}

// wrongCells adds books whose cells can not be.
func wrongCells(add func(what string, change func(b *api.Book))) {
	for what, at := range map[string]api.Cell{"sheet -1": cell(-1, 1, 1), "sheet 3": cell(3, 1, 1), "column 0": cell(2, 0, 1), "column 53": cell(2, 53, 1), "row 0": cell(2, 1, 0), "row 100": cell(2, 1, 100)} {
		add("a cell of "+what, func(b *api.Book) {
			b.Cells = append(b.Cells, api.Entry{At: at, Text: "1", Val: n(1)})
		})
		add("just a cell of "+what, func(b *api.Book) {
			b.Cells = []api.Entry{{At: at, Text: "1", Val: n(1)}}
		})
	}
	add("301 cells", func(b *api.Book) { b.Cells = full(301).Cells })
	add("a cell twice", func(b *api.Book) { b.Cells = slices.Insert(b.Cells, 2, b.Cells[2]) })
	for i := range book().Cells[1:] {
		add("cells out of order at "+strconv.Itoa(i), func(b *api.Book) { b.Cells[i], b.Cells[i+1] = b.Cells[i+1], b.Cells[i] })
	}
	for _, s := range []string{"", "= 1", "=(1)", "=1.50", "=B2:A1", "=", "=A100", "=" + strings.Repeat("1", 300), strings.Repeat("1", 301), strings.Repeat("a", 201), "\n"} {
		add("the content "+s, func(b *api.Book) { b.Cells[0] = api.Entry{At: b.Cells[0].At, Text: s} })
	}
	for s, v := range map[string]api.Value{"2/4": {Kind: api.Number, Num: api.Rat{Num: "\x01", Den: "\x02"}}, "007": n(7), "1.0": n(1), "'a": text("a"), "'1/0": text("1/0")} {
		add("the content "+s, func(b *api.Book) { b.Cells[0] = api.Entry{At: b.Cells[0].At, Text: s, Val: v} })
	}
	for what, v := range map[string]api.Value{"kind -1": {Kind: -1}, "kind 5": {Kind: 5}, "no number": {Kind: api.Number}, "2/4": {Kind: api.Number, Num: api.Rat{Num: "\x02", Den: "\x04"}}, "a text of 201": text(strings.Repeat("a", 201)), "a line": text("\n"), "no fault": fault(0), "fault 8": fault(8), "a blank with a text": {Text: "a"}, "a number with a truth": {Kind: api.Number, Num: n(1).Num, Truth: true}} {
		add("a formula's value "+what, func(b *api.Book) { b.Cells[1].Val = v })
		add("a number's value "+what, func(b *api.Book) { b.Cells[0].Val = v })
	}
	for i, v := range []api.Value{{}, n(2), text("1"), truth(true), fault(1)} {
		add("another value "+strconv.Itoa(i), func(b *api.Book) { b.Cells[0].Val = v })
	}
	add("a text's value 12", func(b *api.Book) { b.Cells[2].Val = n(12) })
	add("a text's value '12", func(b *api.Book) { b.Cells[2].Val = text("'12") })
	add("a truth's value FALSE", func(b *api.Book) { b.Cells[3].Val = truth(false) })
}

// wrongScens adds books whose scenarios can not be.
func wrongScens(add func(what string, change func(b *api.Book))) {
	one := []api.Set{{At: "b!A1"}}
	add("11 scenarios", func(b *api.Book) {
		b.Scens = nil
		for _, name := range names(11) {
			b.Scens = append(b.Scens, api.Scen{Name: name, Sets: one})
		}
	})
	add("scenarios out of order", func(b *api.Book) { b.Scens[0], b.Scens[1] = b.Scens[1], b.Scens[0] })
	add("a scenario twice", func(b *api.Book) { b.Scens[1] = b.Scens[0] })
	add("a scenario of no name", func(b *api.Book) { b.Scens[0].Name = "" })
	add("capitals behind", func(b *api.Book) { b.Scens[1].Name = "Low" })
	add("no sets", func(b *api.Book) { b.Scens[0].Sets = nil })
	add("no sets at last", func(b *api.Book) { b.Scens[1].Sets = []api.Set{} })
	add("21 sets", func(b *api.Book) { b.Scens[1].Sets = sets(21) })
	add("a set twice", func(b *api.Book) { b.Scens[1].Sets = append(b.Scens[1].Sets, b.Scens[1].Sets...) })
	add("a set twice, not at once", func(b *api.Book) { b.Scens[0].Sets[2].At = "b!A1" })
	for _, at := range []string{"", "A1", "b", "b!", "!A1", "b!a1", "b!$A1", "b!A$1", "b!$A$1", "b!A100", "b!BA1", "b!A0", "b!A01", "b!A1:B2", "A1!A1", "1b!A1", "b!A1 ", " b!A1", "b!b!A1", "=b!A1"} {
		add("the address "+at, func(b *api.Book) { b.Scens[0].Sets[1].At = at })
	}
	for _, s := range []string{"2/4", "'a", "= 1", "=(1)", "=", "=A100", "=" + strings.Repeat("1", 300), strings.Repeat("1", 301), strings.Repeat("a", 201), "\n"} {
		add("the scenario's content "+s, func(b *api.Book) { b.Scens[0].Sets[1].Text = s })
	}
}

// sets are so many cells that a scenario sets.
func sets(many int) []api.Set {
	var l []api.Set
	for i := range many {
		l = append(l, api.Set{At: "b!A" + strconv.Itoa(i+1), Text: "=b!A1"})
	}
	return l
}

// P26.1: a book with something wrong in it can not be; what is asked of it is told, or refused, and does not change it.
func TestWrong(t *testing.T) {
	for what, b := range wrong() {
		before := clone(b)
		if sheets.Right(b) {
			t.Errorf("%s: can be", what)
		}
		for _, at := range []api.Cell{cell(0, 1, 1), cell(-1, 0, 0)} {
			for _, s := range []string{"1", "", "="} {
				if got, e := sheets.Set(b, at, s); e != api.ErrForm || !zero(got) {
					t.Errorf("%s: Set of %v to %q: %v, %d", what, at, s, got, e)
				}
			}
		}
		for _, name := range []string{"fresh", "b", "A1"} {
			if got, e := sheets.Add(b, name); e != api.ErrForm || !zero(got) {
				t.Errorf("%s: Add of %q: %v, %d", what, name, got, e)
			}
			if got, e := sheets.Rename(b, "b", name); e != api.ErrForm || !zero(got) {
				t.Errorf("%s: Rename of b to %q: %v, %d", what, name, got, e)
			}
			if got, e := sheets.Rename(b, "none", name); e != api.ErrForm || !zero(got) {
				t.Errorf("%s: Rename of none to %q: %v, %d", what, name, got, e)
			}
		}
		sheets.At(b, "b!A1")
		sheets.Name(b, cell(0, 1, 1))
		sheets.Get(b, cell(0, 1, 1))
		if !sheets.Same(b, before) || !alike(b, before) {
			t.Errorf("%s: changed", what)
		}
	}
}

// P26.1: what is at an end can be.
func TestRight(t *testing.T) {
	change := func(change func(b *api.Book)) api.Book {
		b := book()
		change(&b)
		return b
	}
	long := strings.Repeat("\xff", 32)
	for what, b := range map[string]api.Book{
		"some of all":            book(),
		"one sheet":              empty("a"),
		"six sheets":             empty(names(6)...),
		"a name of 12 bytes":     empty("Abcdefghi_12", "abc1", "a", "A"),
		"no difference":          change(func(b *api.Book) { b.Eps = n(0).Num }),
		"a great difference":     change(func(b *api.Book) { b.Eps = api.Rat{Num: long, Den: "\x01"} }),
		"a small difference":     change(func(b *api.Book) { b.Eps = api.Rat{Num: "\x01", Den: long} }),
		"no sweep":               change(func(b *api.Book) { b.Max = 0 }),
		"100 sweeps":             change(func(b *api.Book) { b.Max = 100 }),
		"not swept":              change(func(b *api.Book) { b.Iter = false }),
		"300 cells":              full(300),
		"empty lists":            {Sheets: []string{"a"}, Cells: []api.Entry{}, Eps: n(0).Num, Scens: []api.Scen{}},
		"20 sets":                change(func(b *api.Book) { b.Scens[1].Sets = sets(20) }),
		"the same sets":          change(func(b *api.Book) { b.Scens[1].Sets = b.Scens[0].Sets }),
		"capitals ahead":         change(func(b *api.Book) { b.Scens[0].Name = "Zz" }),
		"a scenario like sheets": change(func(b *api.Book) { b.Scens[0].Name = "b" }),
		"no scenarios":           change(func(b *api.Book) { b.Scens = nil }),
		"ten scenarios": change(func(b *api.Book) {
			b.Scens = nil
			for _, name := range names(10) {
				b.Scens = append(b.Scens, api.Scen{Name: name, Sets: sets(1)})
			}
		}),
	} {
		before := clone(b)
		if !sheets.Right(b) {
			t.Errorf("%s: can not be", what)
		}
		if !alike(b, before) {
			t.Errorf("%s: changed", what)
		}
	}
	for _, v := range []api.Value{{}, n(0), n(9), text(""), text(strings.Repeat("~", 200)), truth(false), fault(1), fault(7)} {
		if !sheets.Right(change(func(b *api.Book) { b.Cells[1].Val = v })) {
			t.Errorf("a formula of the value %v can not be", v)
		}
	}
	for _, at := range []api.Cell{cell(0, 1, 1), cell(1, 52, 1), cell(0, 1, 99), cell(2, 52, 99)} {
		if !sheets.Right(change(func(b *api.Book) { b.Cells = []api.Entry{{At: at, Text: "1", Val: n(1)}} })) {
			t.Errorf("a book with just %v can not be", at)
		}
	}
}

// P26.1: the new book, each time anew.
func TestNew(t *testing.T) {
	for range 2 {
		b := sheets.New()
		if !alike(b, empty("Sheet_1")) || !sheets.Right(b) {
			t.Errorf("New: %v", b)
		}
		b.Sheets[0] = "other"
		b.Cells = append(b.Cells, api.Entry{})
		b.Scens = append(b.Scens, api.Scen{})
	}
}

// P26.1: books are the same, if all fields are alike.
func TestSame(t *testing.T) {
	for what, change := range map[string]func(b *api.Book){
		"a sheet's name":      func(b *api.Book) { b.Sheets[1] = "B" },
		"sheets' order":       func(b *api.Book) { b.Sheets[1], b.Sheets[2] = b.Sheets[2], b.Sheets[1] },
		"one sheet more":      func(b *api.Book) { b.Sheets = append(b.Sheets, "c") },
		"one sheet less":      func(b *api.Book) { b.Sheets = b.Sheets[:2] },
		"no sheets":           func(b *api.Book) { b.Sheets = nil },
		"a sheet":             func(b *api.Book) { b.Cells[6].At.Sheet = 2 },
		"a column":            func(b *api.Book) { b.Cells[6].At.Col++ },
		"a row":               func(b *api.Book) { b.Cells[6].At.Row++ },
		"a content":           func(b *api.Book) { b.Cells[1].Text = "=A1" },
		"a value":             func(b *api.Book) { b.Cells[1].Val = n(4) },
		"a value's kind":      func(b *api.Book) { b.Cells[1].Val = fault(3) },
		"one cell less":       func(b *api.Book) { b.Cells = b.Cells[:6] },
		"no cells":            func(b *api.Book) { b.Cells = nil },
		"cells' order":        func(b *api.Book) { b.Cells[0], b.Cells[1] = b.Cells[1], b.Cells[0] },
		"Iter":                func(b *api.Book) { b.Iter = false },
		"Max":                 func(b *api.Book) { b.Max++ },
		"Eps' sign":           func(b *api.Book) { b.Eps.Neg = true },
		"Eps' Num":            func(b *api.Book) { b.Eps.Num = "\x03" },
		"Eps' Den":            func(b *api.Book) { b.Eps.Den = "\x03" },
		"a scenario's name":   func(b *api.Book) { b.Scens[1].Name = "lower" },
		"a scenario less":     func(b *api.Book) { b.Scens = b.Scens[:1] },
		"no scenarios":        func(b *api.Book) { b.Scens = nil },
		"an address":          func(b *api.Book) { b.Scens[1].Sets[0].At = "gone!B3" },
		"a scenario's text":   func(b *api.Book) { b.Scens[1].Sets[0].Text = "" },
		"one set less":        func(b *api.Book) { b.Scens[0].Sets = b.Scens[0].Sets[:2] },
		"one set more":        func(b *api.Book) { b.Scens[0].Sets = append(b.Scens[0].Sets, api.Set{}) },
		"no sets":             func(b *api.Book) { b.Scens[0].Sets = nil },
		"sets' order":         func(b *api.Book) { s := b.Scens[0].Sets; s[0], s[1] = s[1], s[0] },
		"scenarios out order": func(b *api.Book) { b.Scens[0], b.Scens[1] = b.Scens[1], b.Scens[0] },
	} {
		b := book()
		change(&b)
		if sheets.Same(b, book()) || sheets.Same(book(), b) || !sheets.Same(b, clone(b)) {
			t.Errorf("%s: as if it were alike, or not like itself", what)
		}
	}
	if !sheets.Same(book(), book()) || !sheets.Same(api.Book{}, api.Book{}) {
		t.Error("not the same as itself")
	}
	nothing := api.Book{Sheets: []string{}, Cells: []api.Entry{}, Scens: []api.Scen{}}
	if !sheets.Same(nothing, api.Book{}) || !sheets.Same(api.Book{}, nothing) {
		t.Error("an empty list is another one than none")
	}
	a, b := api.Book{Scens: []api.Scen{{}}}, api.Book{Scens: []api.Scen{{Sets: []api.Set{}}}}
	if !sheets.Same(a, b) || !sheets.Same(b, a) {
		t.Error("an empty scenario is another one than one of nothing")
	}
}
