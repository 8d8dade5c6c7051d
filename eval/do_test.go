package eval_test

import (
	"slices"
	"strings"
	"testing"

	"abacist/api"
	"abacist/eval"
	"abacist/parse"
)

// formula is the formula of a text.
func formula(t *testing.T, s string) api.Formula {
	t.Helper()
	f, _, e := parse.Formula(s)
	if e != api.OK {
		t.Fatalf("%s: %d", s, e)
	}
	return f
}

// want checks a formula's value in a cell.
func want(t *testing.T, s *eval.Scope, text string, at api.Cell, answer api.Value) {
	t.Helper()
	if got, e := s.Do(formula(t, text), at); got != answer || e != api.OK {
		t.Errorf("%s at %v: %#v, %d, want %#v", text, at, got, e, answer)
	}
}

// book is a scope of two sheets: some values in the first columns, faults in column E.
func book(t *testing.T) *eval.Scope {
	t.Helper()
	s := made(t, "One", "two")
	for at, v := range map[api.Cell]api.Value{
		cell(0, 1, 1): n(2), cell(0, 2, 1): n(3), cell(0, 1, 2): text("a"), cell(0, 2, 2): truth(true), cell(0, 1, 3): text("12"),
		cell(1, 1, 1): n(20), cell(1, 2, 1): n(30), cell(1, 1, 2): text("b"), cell(1, 52, 99): n(99),
		cell(0, 5, 1): fault(1), cell(0, 5, 2): fault(6), cell(0, 5, 3): fault(7), cell(1, 5, 1): fault(5),
	} {
		put(t, s, at, v)
	}
	return s
}

var (
	home  = cell(0, 10, 20)
	other = cell(1, 10, 20)
)

// P24.2: nodes that stand for themselves.
func TestConstants(t *testing.T) {
	half := api.Value{Kind: api.Number, Num: api.Rat{Num: "\x05", Den: "\x02"}}
	for _, c := range []struct {
		text string
		want api.Value
	}{
		{"0", n(0)}, {"7", n(7)}, {"2.5", half}, {`""`, text("")}, {`"a ""b"`, text(`a "b`)}, {"TRUE", truth(true)}, {"FALSE", truth(false)},
		{"#DIV/0!", fault(1)}, {"#VALUE!", fault(2)}, {"#REF!", fault(3)}, {"#NAME?", fault(4)}, {"#NUM!", fault(5)}, {"#N/A", fault(6)}, {"#CIRC!", fault(7)},
	} {
		for _, s := range []*eval.Scope{book(t), made(t, "One", "two")} {
			want(t, s, c.text, home, c.want)
			want(t, s, c.text, other, c.want)
		}
	}
}

// P24.2: a cell has its value, on the sheet that its reference names, or else on the formula's; of one that is Blank the number 0 is told.
func TestCells(t *testing.T) {
	s := book(t)
	for _, c := range []struct {
		text     string
		one, two api.Value
	}{
		{"A1", n(2), n(20)}, {"$A$1", n(2), n(20)}, {"B1", n(3), n(30)}, {"A2", text("a"), text("b")}, {"B2", truth(true), n(0)}, {"A3", text("12"), n(0)},
		{"C1", n(0), n(0)}, {"AZ99", n(0), n(99)}, {"AZ1", n(0), n(0)}, {"A99", n(0), n(0)}, {"J20", n(0), n(0)},
		{"E1", fault(1), fault(5)}, {"E2", fault(6), n(0)}, {"E3", fault(7), n(0)},
		{"One!A1", n(2), n(2)}, {"two!A1", n(20), n(20)}, {"two!$A2", text("b"), text("b")}, {"two!AZ99", n(99), n(99)}, {"One!AZ99", n(0), n(0)}, {"two!E1", fault(5), fault(5)},
		{"Two!A1", fault(3), fault(3)}, {"one!A1", fault(3), fault(3)}, {"Three!A1", fault(3), fault(3)},
	} {
		want(t, s, c.text, home, c.one)
		want(t, s, c.text, other, c.two)
	}
}

// P24.2: an area alone has the value of its one cell; FaultValue of more; FaultRef, whatever its size is, where its sheet is not there.
func TestAreas(t *testing.T) {
	s := book(t)
	for _, c := range []struct {
		text     string
		one, two api.Value
	}{
		{"A1:A1", n(2), n(20)}, {"A2:A2", text("a"), text("b")}, {"C9:C9", n(0), n(0)}, {"E1:E1", fault(1), fault(5)}, {"One!A1:A1", n(2), n(2)}, {"two!A1:A1", n(20), n(20)}, {"AZ99:AZ99", n(0), n(99)},
		{"A1:A2", fault(2), fault(2)}, {"A1:B1", fault(2), fault(2)}, {"C9:C10", fault(2), fault(2)}, {"E2:E3", fault(2), fault(2)}, {"two!A1:B9", fault(2), fault(2)}, {"A1:T10", fault(2), fault(2)},
		{"Three!A1:A1", fault(3), fault(3)}, {"Three!A1:B2", fault(3), fault(3)}, {"ONE!A1:B2", fault(3), fault(3)},
		{"A1:A1+1", n(3), n(21)}, {"-A1:A2", fault(2), fault(2)}, {"1+A1:A2", fault(2), fault(2)}, {"A1:A2=A1:A2", fault(2), fault(2)}, {"1+Three!A1:B2", fault(3), fault(3)}, {"A1:A1%*100", n(2), n(20)},
	} {
		want(t, s, c.text, home, c.one)
		want(t, s, c.text, other, c.two)
	}
}

// P24.2: operators take their kids' values, each kid at its place; Blank ones as operators do.
func TestOperators(t *testing.T) {
	s := book(t)
	tenth := api.Value{Kind: api.Number, Num: api.Rat{Num: "\x01", Den: "\x0a"}}
	for _, c := range []struct {
		text string
		want api.Value
	}{
		{"A1*3", n(6)}, {"-A1", n(-2)}, {"10%", tenth}, {"A1-B1", n(-1)}, {"B1-A1", n(1)}, {"B1^A1", n(9)}, {"A1^B1", n(8)}, {"B1/C1", fault(1)}, {"C1/B1", n(0)},
		{"A1&A2", text("2a")}, {"A2&A1", text("a2")}, {"C1&C1", text("")}, {"A3+1", n(13)}, {"B2+B2", n(2)}, {"A2+1", fault(2)},
		{"A1<B1", truth(true)}, {"B1<A1", truth(false)}, {"A1>=B1", truth(false)}, {"A1<>B1", truth(true)}, {"C1=0", truth(true)}, {`C1=""`, truth(true)}, {"C1=C2", truth(true)}, {"C1=FALSE", truth(true)},
		{"1+2*3", n(7)}, {"(1+2)*3", n(9)}, {"2*3+1", n(7)}, {"10-4-3", n(3)}, {"10-(4-3)", n(9)}, {"2^3^2", n(64)}, {"--A1", n(2)}, {"-A1^2", n(4)}, {"-(A1^2)", n(-4)},
		{"E1+E2", fault(1)}, {"E2+E1", fault(6)}, {"1+E3", fault(7)}, {"E3&E1", fault(7)}, {"E2=E2", fault(6)}, {"-E2", fault(6)}, {"E2%", fault(6)}, {"A2+E1", fault(2)}, {"E1+A2", fault(1)},
		{"two!A1+A1", n(22)}, {"Three!A1+E1", fault(3)}, {"E1+Three!A1", fault(1)}, {"C1+C2", n(0)}, {"-C1", n(0)},
		{`1="1"`, truth(false)}, {`"a"="A"`, truth(false)}, {"TRUE+TRUE", n(2)},
	} {
		want(t, s, c.text, home, c.want)
	}
}

// P24.2: functions take cells and areas as areas of their values, with their columns and first cells; a sheet that is not there as FaultRef; all else as a value.
func TestFunctions(t *testing.T) {
	s := book(t)
	for _, c := range []struct {
		text string
		want api.Value
	}{
		// Of an area just the numbers count, of other arguments what is read as one.
		{"SUM(A1:B2)", n(5)}, {"SUM(A1,B1,B2)", n(5)}, {"SUM(A1+0,B2+0)", n(3)}, {"SUM(TRUE,2)", n(3)}, {"SUM(B2)", n(0)}, {"SUM(B2:B2)", n(0)}, {"SUM((B2))", n(0)}, {"SUM(A3)", n(0)}, {"SUM(A3&B9)", n(12)}, {`SUM("4")`, n(4)}, {"SUM(A2)", n(0)}, {"SUM(C1:D9)", n(0)}, {"SUM(C1)", n(0)},
		{"COUNT(A1:B3)", n(2)}, {"COUNTA(A1:B3)", n(5)}, {"COUNTBLANK(A1:B3)", n(1)}, {"COUNTBLANK(C1)", n(1)}, {"COUNTBLANK(C1:L20)", n(197)},
		{"ROWS(A1:B3)", n(3)}, {"COLUMNS(A1:B3)", n(2)}, {"ROWS(C5)", n(1)}, {"COLUMNS(C5)", n(1)}, {"ROWS(A1:T10)", n(10)}, {"COLUMNS(A1:T10)", n(20)},
		{"ROW(C5)", n(5)}, {"COLUMN(C5)", n(3)}, {"ROW(C5:D6)", n(5)}, {"COLUMN(C5:D6)", n(3)}, {"ROW(two!D7)", n(7)}, {"COLUMN(two!D7:E8)", n(4)}, {"ROW(AZ99)", n(99)}, {"COLUMN(AZ99)", n(52)},
		{"ROW()", n(20)}, {"COLUMN()", n(10)}, {"ROW(5)", fault(2)}, {"ROW(C5+0)", fault(2)}, {"COLUMN(-C5)", fault(2)}, {"ROW(SUM(C5))", fault(2)},
		{"ROW(Three!A1)", fault(2)}, {"ROWS(Three!A1:B9)", n(1)}, {"COLUMNS(Three!A1:B9)", n(1)}, {"SUM(Three!A1)", fault(3)}, {"SUM(1,Three!A1:B2)", fault(3)}, {"ISERROR(Three!A1:B2)", truth(true)}, {"IFERROR(Three!A1:B2,4)", n(4)}, {"COUNTA(Three!A1:B9)", n(1)},
		{"INDEX(A1:B2,1,2)", n(3)}, {"INDEX(A1:B2,2,1)", text("a")}, {"INDEX(two!A1:B2,1,2)", n(30)}, {"INDEX(A1:C2,1,3)", n(0)}, {"INDEX(A1:B2,3,1)", fault(3)}, {"VLOOKUP(2,A1:B1,2)", n(3)}, {"MATCH(3,A1:B1)", n(2)},
		// Of one value FaultValue, where there are more.
		{"ABS(A1)", n(2)}, {"ABS(A1:A1)", n(2)}, {"ABS(A1:A2)", fault(2)}, {"ABS(-A1)", n(2)}, {"NOT(B2)", truth(false)}, {"NOT(A1:B1)", fault(2)}, {"LEN(A2)", n(1)}, {"LEN(C1)", n(0)}, {"LEN(A1:A2)", fault(2)},
		{"ISBLANK(C1)", truth(true)}, {"ISBLANK(A1)", truth(false)}, {"ISBLANK(C1:C1)", truth(true)}, {"ISBLANK(C1+0)", truth(false)}, {"ISBLANK(IF(TRUE,C1,1))", truth(true)}, {"ISTEXT(A2)", truth(true)}, {"ISNUMBER(A3)", truth(false)},
		// What is Blank at the end is told as 0.
		{"IF(TRUE,C1,1)", n(0)}, {"IF(A1>1,C1)", n(0)}, {"IFERROR(C1,1)", n(0)}, {"CHOOSE(1,C1)", n(0)}, {"IF(TRUE,C1,1)&1", text("1")}, {"SWITCH(1,1,C1)", n(0)}, {"LEN(CHOOSE(1,C1))", n(0)},
		// All of a call's arguments, in their order.
		{"IF(A1=2,E1,1)", fault(1)}, {"IF(A1=3,E1,1)", n(1)}, {"IF(E2,E1,1)", fault(6)}, {"SUM(E1:E3)", fault(1)}, {"SUM(A1,E3,E1)", fault(7)}, {"SUM(E1,E3)", fault(1)}, {"MOD(E2,E1)", fault(6)}, {"MOD(7,4)", n(3)}, {"MOD(4,7)", n(4)}, {`CONCAT("a",A2,1,B2)`, text("aa1TRUE")},
		{"SUM(1,SUM(2,3),SUM(SUM(4)),5)", n(15)}, {"SUM(SUM(),1)", fault(2)}, {"MAX(1,MIN(7,5),3)", n(5)}, {"MID(\"abcd\",A1,MIN(A1,B1))", text("bc")}, {"ROUND(5/2,0)", n(3)},
		// Of too few, or too many, FaultValue; of no function FaultName, also where an argument has a fault.
		{"SUM()", fault(2)}, {"ABS()", fault(2)}, {"ABS(1,2)", fault(2)}, {"NA()", fault(6)}, {"TRUE()", truth(true)}, {"NOSUCH()", fault(4)}, {"NOSUCH(A1)", fault(4)}, {"NOSUCH(E1)", fault(4)}, {"IFERROR(NOSUCH(1),2)", n(2)}, {"ISERR(NOSUCH(1))", truth(true)}, {"1+NOSUCH(1)", fault(4)},
		{"SUM(" + strings.Repeat("1,", 19) + "1)", n(20)},
	} {
		want(t, s, c.text, home, c.want)
	}
}

// P24.2: ROW and COLUMN tell the formula's cell, and references without a sheet are on its sheet, wherever it is.
func TestAt(t *testing.T) {
	s := made(t, "A", "B", "C", "D", "E", "F")
	for sheet := range 6 {
		put(t, s, cell(sheet, 1, 1), n(10+sheet))
		put(t, s, cell(sheet, 2, 2), n(20+sheet))
	}
	for sheet := range 6 {
		for _, at := range append(corners(sheet), cell(sheet, 2, 2)) {
			want(t, s, "ROW()", at, n(at.Row))
			want(t, s, "COLUMN()", at, n(at.Col))
			want(t, s, "A1", at, n(10+sheet))
			want(t, s, "SUM(A1:B2)", at, n(30+2*sheet))
			want(t, s, "SUM(A1,C!A1:B2,F!A1)", at, n(10+sheet+34+15))
			want(t, s, "A!A1+A1", at, n(20+sheet))
		}
	}
}

// P24.2: a formula may have a reference to its own cell: it has the value that was put there.
func TestOwnCell(t *testing.T) {
	s := made(t, "One")
	want(t, s, "J20+1", home, n(1))
	put(t, s, home, n(4))
	want(t, s, "J20+1", home, n(5))
	want(t, s, "SUM(A1:J20)", home, n(4))
	if got := s.Get(home); got != n(4) {
		t.Errorf("Do put %#v", got)
	}
}

// P24.2: of formulas that can not be ErrForm, of cells that are not there ErrAddr; these in this order.
func TestDoErrors(t *testing.T) {
	one := api.Node{Kind: api.NdNumber, Num: n(1).Num}
	cellNode := api.Node{Kind: api.NdCell, Ref: api.Ref{Col: 1, Row: 1}}
	wrong := []api.Formula{
		{}, {Nodes: []api.Node{{}}}, {Nodes: []api.Node{{Kind: 10}}}, {Nodes: []api.Node{{Kind: -1}}}, {Nodes: []api.Node{one, one}}, {Nodes: []api.Node{one}, Args: []int{0}},
		{Nodes: []api.Node{{Kind: api.NdNumber}}}, {Nodes: []api.Node{{Kind: api.NdNumber, Num: n(-1).Num}}}, {Nodes: []api.Node{{Kind: api.NdNumber, Num: n(1).Num, Op: 1}}},
		{Nodes: []api.Node{{Kind: api.NdText, Text: "\n"}}}, {Nodes: []api.Node{{Kind: api.NdFault}}}, {Nodes: []api.Node{{Kind: api.NdFault, Op: 8}}},
		{Nodes: []api.Node{{Kind: api.NdCell}}}, {Nodes: []api.Node{{Kind: api.NdCell, Ref: api.Ref{Col: 53, Row: 1}}}}, {Nodes: []api.Node{{Kind: api.NdCell, Ref: api.Ref{Sheet: "A1", Col: 1, Row: 1}}}},
		{Nodes: []api.Node{{Kind: api.NdArea, Ref: api.Ref{Col: 1, Row: 1}}}}, {Nodes: []api.Node{{Kind: api.NdArea, Ref: api.Ref{Col: 2, Row: 1}, To: api.Ref{Col: 1, Row: 1}}}}, {Nodes: []api.Node{{Kind: api.NdArea, Ref: api.Ref{Col: 1, Row: 1}, To: api.Ref{Col: 3, Row: 67}}}},
		{Nodes: []api.Node{one, {Kind: api.NdUnary, Op: api.OpNeg, A: 1}}}, {Nodes: []api.Node{one, {Kind: api.NdUnary, Op: api.OpNeg, A: -1}}}, {Nodes: []api.Node{one, {Kind: api.NdUnary, Op: api.OpAdd}}}, {Nodes: []api.Node{one, {Kind: api.NdBinary, Op: api.OpAdd}}},
		{Nodes: []api.Node{one, cellNode, {Kind: api.NdBinary, Op: api.OpAdd, A: 1}}}, {Nodes: []api.Node{one, cellNode, {Kind: api.NdBinary, Op: api.OpAdd, A: 0, B: 9}}},
		{Nodes: []api.Node{{Kind: api.NdCall, Text: "sum"}}}, {Nodes: []api.Node{{Kind: api.NdCall}}}, {Nodes: []api.Node{one, {Kind: api.NdCall, Text: "SUM", B: 1}}}, {Nodes: []api.Node{one, {Kind: api.NdCall, Text: "SUM", B: 1}}, Args: []int{1}}, {Nodes: []api.Node{one, {Kind: api.NdCall, Text: "SUM", A: 1, B: 1}}, Args: []int{0}}, {Nodes: []api.Node{one, {Kind: api.NdCall, Text: "SUM", B: 1}}, Args: []int{-1}}, {Nodes: []api.Node{one, {Kind: api.NdCall, Text: "SUM", B: -1}}, Args: []int{0}},
		{Nodes: slices.Repeat([]api.Node{one}, 301)},
	}
	for many := range 7 {
		s := made(t, []string{"A", "B", "C", "D", "E", "F"}[:many]...)
		places := outside(many)
		for sheet := range many {
			places = append(places, corners(sheet)...)
		}
		for _, at := range places {
			for _, f := range wrong {
				if got, e := s.Do(f, at); got != blank || e != api.ErrForm {
					t.Errorf("Do of %#v at %v: %#v, %d", f, at, got, e)
				}
			}
		}
		for _, at := range outside(many) {
			for _, text := range []string{"1", "A1", "SUM(A1:B2)", "ROW()", "#N/A", "NOSUCH()"} {
				if got, e := s.Do(formula(t, text), at); got != blank || e != api.ErrAddr {
					t.Errorf("%s at %v: %#v, %d", text, at, got, e)
				}
			}
		}
	}
}

// P24.2: long and deep formulas have values, too.
func TestLongest(t *testing.T) {
	s := book(t)
	want(t, s, strings.Repeat("-", 24)+"A1", home, n(2))
	want(t, s, strings.Repeat("SUM(", 24)+"A1"+strings.Repeat(")", 24), home, n(2))
	want(t, s, strings.Repeat("A1+", 99)+"A1", home, n(200))
	f := api.Formula{Nodes: []api.Node{{Kind: api.NdArea, Ref: api.Ref{Col: 1, Row: 1}, To: api.Ref{Col: 20, Row: 10}}}}
	for range 299 {
		f.Nodes = append(f.Nodes, api.Node{Kind: api.NdUnary, Op: api.OpPercent, A: len(f.Nodes) - 1})
	}
	if got, e := s.Do(f, home); got != fault(2) || e != api.OK {
		t.Errorf("an area with 299 percents behind: %#v, %d", got, e)
	}
}

// P24.2: a formula that is handed in stays as it was, and the scope, too.
func TestDoChangesNothing(t *testing.T) {
	s := book(t)
	f := formula(t, `IF(SUM(A1:B2,two!A1:B2)>A1%,"a"&-B1,Three!A1)`)
	kept := api.Formula{Nodes: slices.Clone(f.Nodes), Args: slices.Clone(f.Args)}
	other := s.Copy()
	for range 2 {
		if got, e := s.Do(f, home); got != text("a-3") || e != api.OK {
			t.Errorf("Do: %#v, %d", got, e)
		}
	}
	if !slices.Equal(f.Nodes, kept.Nodes) || !slices.Equal(f.Args, kept.Args) {
		t.Errorf("Do made %#v of %#v", f, kept)
	}
	same(t, s, other)
}

// same checks that two scopes of two sheets have the same values.
func same(t *testing.T, s, other *eval.Scope) {
	t.Helper()
	for sheet := range 2 {
		for row := range 99 {
			for col := range 52 {
				at := cell(sheet, col+1, row+1)
				if s.Get(at) != other.Get(at) {
					t.Errorf("%v is %#v, was %#v", at, s.Get(at), other.Get(at))
				}
			}
		}
	}
}

// P24.3: a value hangs on the cells of the formula's references.
func TestHangs(t *testing.T) {
	for _, text := range []string{"B2", "B2:B2", "SUM(A1:C3)", "SUM(B2)", "A1+B2", "-B2", "B2%", "IF(TRUE,B2)", "MAX(A1:A9,B2:B9)", "INDEX(A1:C3,2,2)", "VLOOKUP(0,A1:C9,2)", "two!B2", "SUM(two!A1:C9)", "B2&two!B2"} {
		s := made(t, "One", "two")
		put(t, s, cell(0, 1, 2), n(0))
		ahead, e := s.Do(formula(t, text), home)
		for sheet := range 2 {
			put(t, s, cell(sheet, 2, 2), n(7))
		}
		behind, e2 := s.Do(formula(t, text), home)
		if ahead == behind || e != api.OK || e2 != api.OK {
			t.Errorf("%s: %#v, %d, and with another B2 %#v, %d", text, ahead, e, behind, e2)
		}
		for sheet := range 2 {
			put(t, s, cell(sheet, 2, 2), blank)
		}
		if back, e := s.Do(formula(t, text), home); back != ahead || e != api.OK {
			t.Errorf("%s: %#v, and with B2 Blank again %#v, %d", text, ahead, back, e)
		}
	}
}

// P24.2: of a sheet that is added later a reference to it has the values.
func TestSheetAddedLater(t *testing.T) {
	s := made(t, "One")
	want(t, s, "New_1!A1", home, fault(3))
	want(t, s, "SUM(New_1!A1:B2)", home, fault(3))
	if e := s.Add("New_1"); e != api.OK {
		t.Errorf("Add: %d", e)
	}
	want(t, s, "New_1!A1", home, n(0))
	put(t, s, cell(1, 2, 2), n(5))
	want(t, s, "SUM(New_1!A1:B2)", home, n(5))
	want(t, s, "SUM(A1:B2)", cell(1, 9, 9), n(5))
}
