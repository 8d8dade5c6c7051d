package sweep_test

import (
	"math"
	"slices"
	"strconv"
	"strings"
	"testing"

	"abacist/addr"
	"abacist/api"
	"abacist/eval"
	"abacist/parse"
	"abacist/sweep"
	"abacist/value"
)

// cell is one of an address; a sheet's number and a mark may be ahead.
func cell(t *testing.T, s string) api.Cell {
	t.Helper()
	number, address, found := strings.Cut(s, "!")
	if !found {
		number, address = "0", s
	}
	sheet, wrong := strconv.Atoi(number)
	col, row, e := addr.Parse(address)
	if wrong != nil || e != api.OK {
		t.Fatalf("no cell: %s", s)
	}
	return api.Cell{Sheet: sheet, Col: col, Row: row}
}

// literal is the value of a text.
func literal(t *testing.T, s string) api.Value {
	t.Helper()
	v, e := value.Literal(s)
	if e != api.OK {
		t.Fatalf("no value: %s: %d", s, e)
	}
	return v
}

// scope has two sheets, and values, a line each: a cell, and a text behind a blank.
func scope(t *testing.T, lines ...string) *eval.Scope {
	t.Helper()
	s, e := eval.New("One", "Two")
	if e != api.OK {
		t.Fatalf("New: %d", e)
	}
	for _, line := range lines {
		at, text, _ := strings.Cut(line, " ")
		if e := s.Put(cell(t, at), literal(t, text)); e != api.OK {
			t.Fatalf("%s: %d", line, e)
		}
	}
	return s
}

// circle is cells and formulas, a line each: a cell, and a text behind a blank.
func circle(t *testing.T, lines ...string) ([]api.Cell, []api.Formula) {
	t.Helper()
	var cells []api.Cell
	var forms []api.Formula
	for _, line := range lines {
		at, text, _ := strings.Cut(line, " ")
		f, _, e := parse.Formula(text)
		if e != api.OK {
			t.Fatalf("%s: %d", line, e)
		}
		cells = append(cells, cell(t, at))
		forms = append(forms, f)
	}
	return cells, forms
}

// same checks that two scopes have the same values, in a corner of both sheets and in some cells.
func same(t *testing.T, name string, got, want *eval.Scope, cells ...api.Cell) {
	t.Helper()
	for sheet := range 2 {
		cells = append(cells, (addr.Area{Col1: 1, Row1: 1, Col2: 8, Row2: 12}).Cells(sheet)...)
	}
	for _, at := range cells {
		if got.Get(at) != want.Get(at) {
			t.Errorf("%s: %v has %q, want %q", name, at, value.Show(got.Get(at)), value.Show(want.Get(at)))
		}
	}
}

// run is what is done, and what is there then.
type run struct {
	name   string
	values []string
	circle []string
	most   int
	eps    string
	sweeps int
	then   []string
}

func (r run) check(t *testing.T) {
	t.Helper()
	s := scope(t, r.values...)
	cells, forms := circle(t, r.circle...)
	sweeps, e := sweep.Do(s, cells, forms, r.most, rational(t, r.eps))
	if e != api.OK || sweeps != r.sweeps {
		t.Errorf("%s: %d sweeps, %d, want %d", r.name, sweeps, e, r.sweeps)
	}
	want := scope(t, r.values...)
	for _, line := range r.then {
		at, text, _ := strings.Cut(line, " ")
		if e := want.Put(cell(t, at), literal(t, text)); e != api.OK {
			t.Fatalf("%s: %d", line, e)
		}
	}
	same(t, r.name, s, want, cells...)
}

// P32.2: circles of one cell: such that settle at once, after some sweeps, and never.
func TestOne(t *testing.T) {
	half := []string{"A1 (A1+2)/2"}
	for _, r := range []run{
		{"the chapter's example", []string{"A1 0"}, half, 100, "1/4", 3, []string{"A1 7/4"}},
		{"from Blank, which is near to no number", nil, half, 100, "1/4", 3, []string{"A1 7/4"}},
		{"just too far", []string{"A1 0"}, half, 100, "0.2499", 4, []string{"A1 15/8"}},
		{"near at once", []string{"A1 0"}, half, 100, "1", 1, []string{"A1 1"}},
		{"near at once, but for Blank", nil, half, 100, "1", 2, []string{"A1 3/2"}},
		{"most 0", []string{"A1 0"}, half, 0, "1/4", 0, nil},
		{"most 1", []string{"A1 0"}, half, 1, "1/4", 1, []string{"A1 1"}},
		{"most 2", []string{"A1 0"}, half, 2, "1/4", 2, []string{"A1 3/2"}},
		{"most is just what it takes", []string{"A1 0"}, half, 3, "1/4", 3, []string{"A1 7/4"}},
		{"most is one more", []string{"A1 0"}, half, 4, "1/4", 3, []string{"A1 7/4"}},
		{"never with eps 0", []string{"A1 0"}, half, 9, "0", 9, []string{"A1 511/256"}},
		{"already there", []string{"A1 2"}, half, 100, "0", 1, nil},
		{"from above", []string{"A1 4"}, half, 100, "1/2", 2, []string{"A1 2.5"}},
		{"its own value", []string{"A1 5"}, []string{"A1 A1"}, 100, "0", 1, nil},
		{"its own value, Blank", nil, []string{"A1 A1"}, 100, "9", 2, []string{"A1 0"}},
		{"one more each time", nil, []string{"A1 A1+1"}, 100, "0.99", 100, []string{"A1 100"}},
		{"one more each time, near", []string{"A1 7"}, []string{"A1 A1+1"}, 100, "1", 1, []string{"A1 8"}},
		{"to and fro", []string{"A1 1"}, []string{"A1 1-A1"}, 99, "1/2", 99, []string{"A1 0"}},
		{"a truth to and fro", []string{"A1 TRUE"}, []string{"A1 NOT(A1)"}, 100, "100", 100, nil},
		{"a truth and a number", []string{"A1 TRUE"}, []string{"A1 IF(A1=1,TRUE,1)"}, 7, "100", 7, []string{"A1 1"}},
		{"a text that gets too long", []string{"A1 '1"}, []string{`A1 A1&"23"`}, 100, "99999", 100, []string{"A1 #VALUE!"}},
		{"a text that settles", []string{"A1 a"}, []string{`A1 LEFT("b"&A1,5)`}, 100, "0", 6, []string{"A1 bbbbb"}},
		{"too many bits", []string{"A1 3"}, []string{"A1 A1*A1"}, 100, "0", 9, []string{"A1 #NUM!"}},
		{"a fault", []string{"A1 0"}, []string{"A1 1/A1"}, 100, "0", 2, []string{"A1 #DIV/0!"}},
		{"a fault that is there", []string{"A1 #N/A"}, []string{"A1 A1+1"}, 100, "0", 1, nil},
		{"faults of two kinds", []string{"A1 #N/A"}, []string{"A1 IFERROR(A1,1)/0"}, 100, "0", 2, []string{"A1 #DIV/0!"}},
		{"no circle at all", []string{"A1 6", "B1 6"}, []string{"B1 A1+1"}, 100, "1/2", 2, []string{"B1 7"}},
		{"no circle, near", []string{"A1 6", "B1 6"}, []string{"B1 A1+1"}, 100, "1", 1, []string{"B1 7"}},
		{"the last cell of the grid", nil, []string{"1!AZ99 MIN(AZ99+1,3)"}, 100, "0", 4, []string{"1!AZ99 3"}},
	} {
		r.check(t)
	}
}

// P32.2: circles of more cells, one after another, each with what those ahead of it have by then.
func TestMore(t *testing.T) {
	for _, r := range []run{
		{"two", nil, []string{"A1 B1+1", "B1 A1"}, 4, "0", 4, []string{"A1 4", "B1 4"}},
		{"two, the other way", nil, []string{"B1 A1", "A1 B1+1"}, 4, "0", 4, []string{"A1 4", "B1 3"}},
		{"two that settle at once", []string{"A1 3", "B1 3"}, []string{"A1 B1", "B1 A1"}, 100, "0", 1, nil},
		{"two that settle", []string{"A1 3", "B1 4"}, []string{"A1 B1", "B1 A1"}, 100, "0", 2, []string{"A1 4"}},
		{"two that settle the other way", []string{"A1 3", "B1 4"}, []string{"B1 A1", "A1 B1"}, 100, "0", 2, []string{"B1 3"}},
		{"the first one is not near", []string{"A1 0", "B1 0"}, []string{"A1 A1+2", "B1 B1+1"}, 5, "1", 5, []string{"A1 10", "B1 5"}},
		{"the last one is not near", []string{"A1 0", "B1 0"}, []string{"A1 A1+1", "B1 B1+2"}, 5, "1", 5, []string{"A1 5", "B1 10"}},
		{"the one in the midst is not near", []string{"A1 0", "B1 0", "C1 0"}, []string{"A1 A1+1", "B1 B1+2", "C1 C1+1"}, 5, "1", 5, []string{"A1 5", "B1 10", "C1 5"}},
		{"all are near", []string{"A1 0", "B1 0", "C1 0"}, []string{"A1 A1+1", "B1 B1-1", "C1 C1"}, 5, "1", 1, []string{"A1 1", "B1 -1"}},
		{"near to what it had ahead of the sweep alone", []string{"A1 0"}, []string{"A1 A1+1/4"}, 3, "1/4", 1, []string{"A1 1/4"}},
		{"of two sheets", []string{"A1 1", "1!A1 1"}, []string{"A1 Two!A1*2", "1!A1 One!A1+B1"}, 3, "0", 3, []string{"A1 8", "1!A1 8"}},
		{"with other cells", []string{"A1 0", "C3 1/2", "1!B2 x"}, []string{"A1 A1*C3+1", `B1 IF(A1>1,Two!B2,"y")`}, 100, "1/4", 3, []string{"A1 1.75", "B1 x"}},
		{"with other cells, one of which changes later", []string{"A1 0", "C3 1/2", "1!B2 x"}, []string{`B1 IF(A1>=1.5,Two!B2,"y")`, "A1 A1*C3+1"}, 100, "1/4", 4, []string{"A1 1.875", "B1 x"}},
		{"by areas", []string{"A1 1", "B1 2", "C1 3"}, []string{"A1 SUM(A1:C1)", "C1 MAX(A1:B1)"}, 2, "0", 2, []string{"A1 14", "C1 14"}},
		{"a sheet that is not there", nil, []string{"A1 Three!A1", "B1 IFERROR(A1,B1+1)"}, 3, "0", 3, []string{"A1 #REF!", "B1 3"}},
	} {
		r.check(t)
	}
}

// P32.2: of a cell that is there more than once each time counts.
func TestTwice(t *testing.T) {
	for _, r := range []run{
		{"up twice, near each time", []string{"A1 0"}, []string{"A1 A1+1", "A1 A1+1"}, 9, "1", 1, []string{"A1 2"}},
		{"up and down", []string{"A1 0"}, []string{"A1 A1+1", "A1 A1-1"}, 9, "0", 9, nil},
		{"up and down, near each time", []string{"A1 0"}, []string{"A1 A1+1", "A1 A1-1"}, 9, "1", 1, nil},
		{"up further than near, and back", []string{"A1 0"}, []string{"A1 A1+2", "B1 A1", "A1 A1-2"}, 9, "1", 9, []string{"B1 2"}},
		{"the same, again and again", []string{"A1 7"}, []string{"A1 A1", "A1 A1", "A1 A1"}, 9, "0", 1, nil},
		{"two constants", []string{"A1 2"}, []string{"A1 1", "A1 2"}, 9, "0", 9, nil},
	} {
		r.check(t)
	}
}

// P32.2: without cells there is nothing that is not near: one sweep, if there may be one.
func TestNoCells(t *testing.T) {
	for _, most := range []int{0, 1, 2, 100} {
		run{"no cells", []string{"A1 1"}, nil, most, "0", min(most, 1), nil}.check(t)
		s := scope(t, "A1 1")
		if got, e := sweep.Do(s, []api.Cell{}, []api.Formula{}, most, rational(t, "0")); got != min(most, 1) || e != api.OK {
			t.Errorf("empty lists, most %d: %d, %d", most, got, e)
		}
	}
}

// P32.2, P32.3: a circle of very many cells, each of which has what the one ahead of it has; the first one what the last one has, up to 5.
func TestMany(t *testing.T) {
	const n = 3 * api.MaxRow
	var lines []string
	for i := range n {
		lines = append(lines, place(i)+" "+place((i+n-1)%n))
	}
	lines[0] = "A1 MIN(" + place(n-1) + "+1,5)"
	for most, then := range map[int]string{0: "", 1: "1", 4: "4", 5: "5", 6: "5", 100: "5"} {
		s := scope(t)
		cells, forms := circle(t, lines...)
		got, e := sweep.Do(s, cells, forms, most, rational(t, "0"))
		if got != min(most, 6) || e != api.OK {
			t.Errorf("most %d: %d, %d", most, got, e)
		}
		for _, at := range cells {
			if s.Get(at) != literal(t, then) {
				t.Fatalf("most %d: %v has %q", most, at, value.Show(s.Get(at)))
			}
		}
	}
	slices.Reverse(lines)
	s := scope(t)
	cells, forms := circle(t, lines...)
	if got, e := sweep.Do(s, cells, forms, 100, rational(t, "0")); got != 100 || e != api.OK || value.Show(s.Get(cells[n-1])) != "1" || value.Show(s.Get(cells[n-2])) != "1" || value.Show(s.Get(cells[0])) != "0" {
		t.Errorf("the other way: %d, %d, %q", got, e, value.Show(s.Get(cells[0])))
	}
}

// place is a cell's address, of three columns one after another.
func place(i int) string { return addr.Text(1+i/api.MaxRow, 1+i%api.MaxRow) }

// P32.2: a formula of as many nodes as it can have but one, that goes on through all sweeps there may be.
func TestLong(t *testing.T) {
	s := scope(t, "A1 0")
	cells, forms := circle(t, "A1 A1"+strings.Repeat("+1", 149))
	if got, e := sweep.Do(s, cells, forms, api.MaxIter, rational(t, "148.9")); got != 100 || e != api.OK || value.Show(s.Get(cells[0])) != "14900" {
		t.Errorf("%d, %d, %q", got, e, value.Show(s.Get(cells[0])))
	}
}

// asked is what Do is asked.
type asked struct {
	s     *eval.Scope
	cells []api.Cell
	forms []api.Formula
	most  int
	eps   api.Rat
}

// wrong are errors, in the order in which they come, and what makes them of a call that is right.
func wrong() []struct {
	want api.Errno
	make func(a *asked)
} {
	return []struct {
		want api.Errno
		make func(a *asked)
	}{
		{api.ErrNil, func(a *asked) { a.s = nil }},
		{api.ErrArg, func(a *asked) { a.cells = append(slices.Clone(a.cells), a.cells[0]) }},
		{api.ErrArg, func(a *asked) { a.forms = append(slices.Clone(a.forms), a.forms[0]) }},
		{api.ErrArg, func(a *asked) { a.forms = nil }},
		{api.ErrArg, func(a *asked) { a.cells = nil }},
		{api.ErrArg, func(a *asked) { a.most = -1 }},
		{api.ErrArg, func(a *asked) { a.most = math.MinInt }},
		{api.ErrArg, func(a *asked) { a.most = api.MaxIter + 1 }},
		{api.ErrArg, func(a *asked) { a.most = math.MaxInt }},
		{api.ErrForm, func(a *asked) { a.forms[0] = api.Formula{} }},
		{api.ErrForm, func(a *asked) { a.forms[1].Args = []int{0} }},
		{api.ErrForm, func(a *asked) { a.forms[len(a.forms)-1].Nodes = []api.Node{{Kind: api.NdCell}} }},
		{api.ErrForm, func(a *asked) { a.eps = api.Rat{} }},
		{api.ErrForm, func(a *asked) { a.eps = api.Rat{Num: "\x02", Den: "\x04"} }},
		{api.ErrForm, func(a *asked) { a.eps = api.Rat{Neg: true, Den: "\x01"} }},
		{api.ErrForm, func(a *asked) { a.eps = api.Rat{Num: "\x01" + strings.Repeat("\x00", 32), Den: "\x01"} }},
		{api.ErrForm, func(a *asked) { a.eps = api.Rat{Neg: true, Num: "\x01", Den: "\x01"} }},
		{api.ErrForm, func(a *asked) { a.eps = api.Rat{Neg: true, Num: "\x01", Den: "\xff\xff"} }},
		{api.ErrAddr, func(a *asked) { a.cells[0].Sheet = 2 }},
		{api.ErrAddr, func(a *asked) { a.cells[1] = api.Cell{} }},
		{api.ErrAddr, func(a *asked) { a.cells[len(a.cells)-1].Row = api.MaxRow + 1 }},
		{api.ErrAddr, func(a *asked) { a.cells[len(a.cells)-1].Col = api.MaxCol + 1 }},
		{api.ErrAddr, func(a *asked) { a.cells[1] = api.Cell{Sheet: -1, Col: 1, Row: 1} }},
		{api.ErrAddr, func(a *asked) { a.cells[0] = api.Cell{Sheet: math.MaxInt, Col: math.MinInt, Row: math.MaxInt} }},
	}
}

// fresh is a call that is right, and what its scope is.
func fresh(t *testing.T, most int) (asked, *eval.Scope) {
	t.Helper()
	s := scope(t, "A1 1", "B1 2", "C1 x")
	cells, forms := circle(t, "A1 B1+1", "B1 A1+1", "1!A1 One!A1")
	return asked{s, cells, forms, most, rational(t, "0")}, s
}

// P32.2: all errors, each one alone and with each one that comes behind it, and nothing is changed.
func TestErrors(t *testing.T) {
	for _, most := range []int{0, 1, api.MaxIter} {
		a, _ := fresh(t, most)
		if got, e := sweep.Do(a.s, a.cells, a.forms, a.most, a.eps); got != most || e != api.OK {
			t.Errorf("what is right: %d, %d", got, e)
		}
		for i, first := range wrong() {
			for j, second := range wrong() {
				a, s := fresh(t, most)
				// What is cut off, or made longer, comes last, so that the other one finds its place.
				second.make(&a)
				if len(a.cells) != 3 || len(a.forms) != 3 {
					continue
				}
				first.make(&a)
				// The errors' numbers are in the order in which they come.
				want := min(first.want, second.want)
				if got, e := sweep.Do(a.s, a.cells, a.forms, a.most, a.eps); got != 0 || e != want {
					t.Errorf("%d with %d, most %d: %d, %d, want %d", i, j, most, got, e, want)
				}
				before, _ := fresh(t, most)
				same(t, "a refused call", s, before.s)
			}
		}
	}
}

// P32.2: a scope without sheets has no cells; also one that New did not make.
func TestNoSheets(t *testing.T) {
	empty, e := eval.New()
	if e != api.OK {
		t.Fatal(e)
	}
	cells, forms := circle(t, "A1 1")
	for _, s := range []*eval.Scope{empty, {}} {
		for _, most := range []int{0, 5} {
			if got, e := sweep.Do(s, cells, forms, most, rational(t, "0")); got != 0 || e != api.ErrAddr {
				t.Errorf("%d, %d", got, e)
			}
			if got, e := sweep.Do(s, nil, nil, most, rational(t, "0")); got != min(most, 1) || e != api.OK {
				t.Errorf("of no cells: %d, %d", got, e)
			}
		}
	}
}

// P32.2: cells and formulas that are handed in are not changed, and not kept.
func TestHandedIn(t *testing.T) {
	s := scope(t)
	lines := []string{"A1 SUM(A1:B1)+1", "B1 IF(A1>3,A1,B1)", "A1 A1"}
	cells, forms := circle(t, lines...)
	wantCells, wantForms := circle(t, lines...)
	if got, e := sweep.Do(s, cells, forms, 5, rational(t, "0")); got != 5 || e != api.OK {
		t.Errorf("%d, %d", got, e)
	}
	if !slices.Equal(cells, wantCells) {
		t.Errorf("cells: %v", cells)
	}
	for i, f := range forms {
		if !slices.Equal(f.Nodes, wantForms[i].Nodes) || !slices.Equal(f.Args, wantForms[i].Args) {
			t.Errorf("formula %d: %v", i, f)
		}
		clear(f.Nodes)
	}
	had := s.Copy()
	clear(cells)
	clear(forms)
	same(t, "the scope", s, had)
}
