package prec_test

import (
	"math"
	"slices"
	"strconv"
	"strings"
	"testing"

	"abacist/addr"
	"abacist/api"
	"abacist/parse"
	"abacist/prec"
)

func cell(sheet, col, row int) api.Cell { return api.Cell{Sheet: sheet, Col: col, Row: row} }

// formula is the formula of a text.
func formula(t *testing.T, s string) api.Formula {
	t.Helper()
	f, _, e := parse.Formula(s)
	if e != api.OK {
		t.Fatalf("%s: %d", s, e)
	}
	return f
}

// cells are those of a text: addresses with blanks between, on sheet 0, or with a sheet's number and a mark ahead.
func cells(t *testing.T, s string) []api.Cell {
	t.Helper()
	var l []api.Cell
	for _, word := range strings.Fields(s) {
		number, address, found := strings.Cut(word, "!")
		if !found {
			number, address = "0", word
		}
		sheet, wrong := strconv.Atoi(number)
		col, row, e := addr.Parse(address)
		if wrong != nil || e != api.OK {
			t.Fatalf("no cell: %s", word)
		}
		l = append(l, cell(sheet, col, row))
	}
	return l
}

var names = []string{"One", "two", "Three"}

// P27.1: what formulas need in a cell of sheet 0, and in one of sheet 1.
func TestOf(t *testing.T) {
	for _, c := range []struct{ text, first, second string }{
		{"1", "", ""}, {`"A1"`, "", ""}, {`"One!A1:B2"`, "", ""}, {"TRUE", "", ""}, {"#REF!", "", ""}, {"-(1+2)%", "", ""}, {"SUM()", "", ""}, {"ROW()+A(1)", "", ""},
		{"A1", "A1", "1!A1"}, {"$A$1", "A1", "1!A1"}, {"AZ99", "AZ99", "1!AZ99"}, {"-A1%", "A1", "1!A1"}, {"J20", "J20", "1!J20"},
		{"One!A1", "A1", "A1"}, {"two!A1", "1!A1", "1!A1"}, {"Three!$B7", "2!B7", "2!B7"},
		{"A1+B2*C3", "A1 B2 C3", "1!A1 1!B2 1!C3"}, {"C3+B2+A1", "A1 B2 C3", "1!A1 1!B2 1!C3"},
		{"A2+B1", "B1 A2", "1!B1 1!A2"}, {"Three!A1+two!B9+One!AZ99+C3", "C3 AZ99 1!B9 2!A1", "AZ99 1!C3 1!B9 2!A1"},
		{"A1+$A1+A$1+A1", "A1", "1!A1"}, {"A1+One!A1+two!A1+One!$A$1", "A1 1!A1", "A1 1!A1"},
		{"SUM(A1:B1,A1)", "A1 B1", "1!A1 1!B1"}, {"SUM(A1,A1:B1)", "A1 B1", "1!A1 1!B1"},
		{"SUM(B2:B2)", "B2", "1!B2"}, {"B2:B2", "B2", "1!B2"}, {"A1:B2", "A1 B1 A2 B2", "1!A1 1!B1 1!A2 1!B2"},
		{"SUM(A1:B2,B2:C3)", "A1 B1 A2 B2 C2 B3 C3", "1!A1 1!B1 1!A2 1!B2 1!C2 1!B3 1!C3"},
		{"SUM(B2:C3)+SUM(B2:C3)", "B2 C2 B3 C3", "1!B2 1!C2 1!B3 1!C3"},
		{"SUM(A1:A3,B2:C2)", "A1 A2 B2 C2 A3", "1!A1 1!A2 1!B2 1!C2 1!A3"},
		{"SUM(two!A1:B1)*A1", "A1 1!A1 1!B1", "1!A1 1!B1"}, {"MAX(B2:A1)", "A1 B1 A2 B2", "1!A1 1!B1 1!A2 1!B2"},
		{"SUM(AY98:AZ99)", "AY98 AZ98 AY99 AZ99", "1!AY98 1!AZ98 1!AY99 1!AZ99"},
		{"ROW(A1)+COLUMN(B1)", "A1 B1", "1!A1 1!B1"}, {"IF(TRUE,A1,B1)", "A1 B1", "1!A1 1!B1"}, {"NOSUCH(A1)", "A1", "1!A1"}, {"A1/0+#N/A", "A1", "1!A1"},
		{"Four!A1", "", ""}, {"one!A1", "", ""}, {"SUM(ONE!A1:B2,TWO!A1)", "", ""}, {"Four!A1+A1+SUM(Four!B1:B9)", "A1", "1!A1"},
	} {
		for sheet, want := range []string{c.first, c.second} {
			got := prec.Of(formula(t, c.text), cell(sheet, 10, 20), names...)
			if !slices.Equal(got, cells(t, want)) {
				t.Errorf("%s on sheet %d: %v, want %s", c.text, sheet, got, want)
			}
		}
	}
}

// P27.1: names that no sheet has, or two; no sheets at all; cells of no sheet.
func TestOfSheets(t *testing.T) {
	for _, c := range []struct {
		text   string
		sheet  int
		sheets []string
		want   string
	}{
		{"One!A1+B1", 0, nil, "B1"}, {"One!A1", 0, nil, ""}, {"SUM(A1:B1)", 2, nil, "2!A1 2!B1"},
		{"One!A1", 1, []string{"One", "One"}, "A1"}, {"One!A1+A1", 2, []string{"two", "One", "One"}, "1!A1 2!A1"}, {"SUM(two!A1:B1)", 0, []string{"One", "two", "One", "two"}, "1!A1 1!B1"},
		{"A1+two!B1", 7, names, "1!B1 7!A1"}, {"A1+two!B1", -1, names, "-1!A1 1!B1"}, {"One!A1", math.MaxInt, names, "A1"}, {"SUM(A1:A2)", math.MinInt, names, strconv.Itoa(math.MinInt) + "!A1 " + strconv.Itoa(math.MinInt) + "!A2"},
		{"A1", 1, []string{"", "", ""}, "1!A1"}, {"One!A1", 0, []string{"", "A1", "One!", "One", "x y"}, "3!A1"},
	} {
		if got := prec.Of(formula(t, c.text), cell(c.sheet, 1, 1), c.sheets...); !slices.Equal(got, cells(t, c.want)) {
			t.Errorf("%s on sheet %d of %v: %v, want %s", c.text, c.sheet, c.sheets, got, c.want)
		}
	}
	many := make([]string, 1000)
	many[999] = "One"
	if got := prec.Of(formula(t, "One!A1"), cell(0, 1, 1), many...); !slices.Equal(got, cells(t, "999!A1")) {
		t.Errorf("of many sheets: %v", got)
	}
}

// The formula's cell may be needed itself, and may be outside the grid.
func TestOfCells(t *testing.T) {
	for _, at := range []api.Cell{cell(0, 1, 1), cell(0, 2, 1), cell(0, 0, 0), cell(0, 53, 100), cell(0, math.MinInt, math.MaxInt)} {
		if got := prec.Of(formula(t, "SUM(A1:B1)+A1"), at, names...); !slices.Equal(got, cells(t, "A1 B1")) {
			t.Errorf("in %v: %v", at, got)
		}
	}
}

// P27.1: areas of as many cells as they may have, and as many of them as a formula may have.
func TestOfGreat(t *testing.T) {
	for _, c := range []struct {
		text        string
		many        int
		first, last string
	}{
		{"SUM(A1:T10)", 200, "A1", "T10"}, {"SUM(AQ80:AZ99)", 200, "AQ80", "AZ99"}, {"SUM(AY1:AZ99)", 198, "AY1", "AZ99"}, {"SUM(A97:AZ99)", 156, "A97", "AZ99"},
		{"SUM(A1:T10,B2:U11)", 229, "A1", "U11"}, {"SUM(A1:T10,two!A1:T10,Three!A1:T10,A1:T10)", 600, "A1", "2!T10"},
	} {
		got := prec.Of(formula(t, c.text), cell(0, 1, 1), names...)
		if len(got) != c.many || got[0] != cells(t, c.first)[0] || got[len(got)-1] != cells(t, c.last)[0] {
			t.Errorf("%s: %d cells", c.text, len(got))
		}
	}
	columns := ""
	for col := 1; col <= api.MaxArgs; col++ {
		columns += "," + addr.Text(col, 1) + ":" + addr.Text(col, 99)
	}
	if got := prec.Of(formula(t, "SUM("+columns[1:]+")"), cell(0, 1, 1)); len(got) != 20*99 || !slices.Equal(got[:20], addr.Area{Col1: 1, Row1: 1, Col2: 20, Row2: 1}.Cells(0)) {
		t.Errorf("of twenty columns: %d cells", len(got))
	}
	if got := prec.Of(formula(t, "A1"+strings.Repeat("+B1", 99)), cell(0, 1, 1)); !slices.Equal(got, cells(t, "A1 B1")) {
		t.Errorf("of a hundred references: %v", got)
	}
}

// broken are formulas with references that can not be.
func broken() []api.Formula {
	one := api.Node{Kind: api.NdCell, Ref: api.Ref{Col: 1, Row: 1}}
	area := func(a, b, c, d int) api.Node {
		return api.Node{Kind: api.NdArea, Ref: api.Ref{Col: a, Row: b}, To: api.Ref{Col: c, Row: d}}
	}
	l := []api.Formula{{}, {Nodes: []api.Node{one, one}}, {Nodes: []api.Node{one}, Args: []int{0}}, {Nodes: []api.Node{one, {Kind: api.NdUnary, Op: api.OpNeg, A: 1}}}, {Nodes: []api.Node{one, {Kind: api.NdCall, Text: "SUM", A: 0, B: 1}}, Args: []int{5}}}
	for _, n := range []api.Node{
		area(2, 1, 1, 1), area(1, 2, 1, 1), area(1, 1, 53, 1), area(0, 1, 1, 1), area(1, 1, 3, 99), area(math.MinInt, 1, math.MaxInt, 1), area(1, math.MinInt, 1, math.MaxInt),
		{Kind: api.NdCell, Ref: api.Ref{Col: 1, Row: 100}}, {Kind: api.NdCell, Ref: api.Ref{Col: math.MaxInt, Row: 1}}, {Kind: api.NdCell, Ref: api.Ref{Sheet: "A1", Col: 1, Row: 1}}, {Kind: api.NdCell, Ref: api.Ref{Sheet: "One!", Col: 1, Row: 1}},
		{Kind: api.NdArea, Ref: api.Ref{Col: 1, Row: 1}, To: api.Ref{Sheet: "One", Col: 1, Row: 1}}, {Kind: api.NdCell, Ref: api.Ref{Col: 1, Row: 1}, To: api.Ref{Col: 1, Row: 1}},
		{Kind: api.NdText, Text: "x", Ref: api.Ref{Col: 1, Row: 1}}, {Kind: 10, Ref: api.Ref{Col: 1, Row: 1}}, {Ref: api.Ref{Col: 1, Row: 1}}, {Kind: -1},
	} {
		l = append(l, api.Formula{Nodes: []api.Node{n}})
	}
	return append(l, api.Formula{Nodes: slices.Repeat([]api.Node{one}, 301)})
}

func TestOfBroken(t *testing.T) {
	for _, f := range broken() {
		if got := prec.Of(f, cell(0, 1, 1), names...); len(got) != 0 {
			t.Errorf("%v: %v", f, got)
		}
	}
}

// What is handed in stays, what is answered is nobody else's.
func TestOfIsNew(t *testing.T) {
	f, handed := formula(t, "SUM(A1:B2,two!C3)"), slices.Clone(names)
	want := cells(t, "A1 B1 A2 B2 1!C3")
	for range 2 {
		got := prec.Of(f, cell(0, 9, 9), handed...)
		if !slices.Equal(got, want) {
			t.Errorf("%v, want %v", got, want)
		}
		clear(append(got, cell(9, 9, 9)))
	}
	if again := formula(t, "SUM(A1:B2,two!C3)"); !slices.Equal(f.Nodes, again.Nodes) || !slices.Equal(f.Args, again.Args) || !slices.Equal(handed, names) {
		t.Errorf("changed: %v, %v", f, names)
	}
}
