package rewrite_test

import (
	"math"
	"slices"
	"strings"
	"testing"

	"abacist/api"
	"abacist/ast"
	"abacist/parse"
	"abacist/print"
	"abacist/rat"
	"abacist/ref"
	"abacist/rewrite"
)

// formula is that of a text.
func formula(t *testing.T, s string) api.Formula {
	t.Helper()
	f, at, e := parse.Formula(s)
	if e != api.OK {
		t.Fatalf("%q: %d %d", s, at, e)
	}
	return f
}

// told is a formula's text, or its error's number.
func told(t *testing.T, f api.Formula, e api.Errno) string {
	t.Helper()
	if e != api.OK {
		if len(f.Nodes) != 0 || len(f.Args) != 0 {
			t.Errorf("error %d, and %+v", e, f)
		}
		return "error"
	}
	s, e := print.Formula(f)
	if e != api.OK || !ast.Right(f) {
		t.Errorf("%+v: %d", f, e)
	}
	return s
}

// broken are formulas that can not be.
func broken() []api.Formula {
	one := api.Node{Kind: api.NdNumber, Num: rat.Of(1)}
	cell := api.Node{Kind: api.NdCell, Ref: api.Ref{Sheet: "S", Col: 1, Row: 1}}
	area := api.Node{Kind: api.NdArea, Ref: api.Ref{Sheet: "S", Col: 1, Row: 1}, To: api.Ref{Col: 1, Row: 1}}
	turned, great, named, fault := area, area, cell, cell
	turned.Ref.Col = 2
	great.To.Col, great.To.Row = 52, 99
	named.Ref.Sheet = "A1"
	fault.Op = api.FaultRef
	return []api.Formula{
		{}, {Args: []int{0}}, {Nodes: []api.Node{{}}}, {Nodes: []api.Node{cell, cell}}, {Nodes: []api.Node{cell}, Args: []int{0}}, {Nodes: []api.Node{turned}}, {Nodes: []api.Node{great}}, {Nodes: []api.Node{named}}, {Nodes: []api.Node{fault}}, {Nodes: []api.Node{cell, area}},
		{Nodes: []api.Node{{Kind: api.NdCell, Ref: api.Ref{Col: 53, Row: 1}}}}, {Nodes: []api.Node{{Kind: api.NdCell, Ref: api.Ref{Col: 1, Row: 100}}}}, {Nodes: []api.Node{{Kind: api.NdCell}}}, {Nodes: []api.Node{{Kind: api.NdArea, Ref: area.Ref, To: cell.Ref}}},
		{Nodes: []api.Node{cell, {Kind: api.NdUnary, Op: api.OpAdd}}}, {Nodes: []api.Node{cell, {Kind: api.NdCall, Text: "F", A: 1 << 62, B: 1}}}, {Nodes: slices.Repeat([]api.Node{cell}, 301)}, {Nodes: []api.Node{one, cell, {Kind: api.NdBinary, Op: api.OpAdd, A: 1, B: 0}}},
		{Nodes: []api.Node{cell, {Kind: api.NdUnary, Op: api.OpNeg, A: math.MaxInt}}}, {Nodes: []api.Node{cell, {Kind: api.NdUnary, Op: api.OpNeg, A: math.MinInt}}},
	}
}

// P16.1: Move of cells, and of areas.
func TestMove(t *testing.T) {
	for _, c := range []struct {
		f          string
		cols, rows int
		want       string
	}{
		{"A1", 1, 2, "B3"}, {"$A1", 1, 2, "$A3"}, {"A$1", 1, 2, "B$1"}, {"$A$1", 1, 2, "$A$1"}, {"S!A1", 1, 2, "S!B3"}, {"S!$A$1", 1, 2, "S!$A$1"}, {"B1+$C$1", 0, 1, "B2+$C$1"},
		{"C3", -2, -2, "A1"}, {"C3", -3, 0, "#REF!"}, {"C3", 0, -3, "#REF!"}, {"A1", 51, 98, "AZ99"}, {"A1", 52, 0, "#REF!"}, {"A1", 0, 99, "#REF!"}, {"$A1", -1, 0, "$A1"}, {"A$1", 0, -1, "A$1"}, {"$A1", 0, -1, "#REF!"}, {"A$1", -1, 0, "#REF!"}, {"S!A1", -1, 0, "#REF!"},
		{"A1", math.MaxInt, 0, "#REF!"}, {"A1", math.MinInt, math.MinInt, "#REF!"}, {"AZ99", math.MaxInt, math.MaxInt, "#REF!"}, {"$A$1", math.MaxInt, math.MinInt, "$A$1"}, {"A1", 1 << 32, 1 << 32, "#REF!"}, {"A1", 256, 0, "#REF!"},
		{"1", 1, 1, "1"}, {`"A1"`, 1, 1, `"A1"`}, {"TRUE", 1, 1, "TRUE"}, {"#REF!", 1, 1, "#REF!"}, {"#N/A", 0, 0, "#N/A"}, {"A1(B2)", 1, 1, "A1(C3)"}, {"F()", 1, 1, "F()"},
		{"A1:B2", 1, 2, "B3:C4"}, {"S!A1:B2", 1, 2, "S!B3:C4"}, {"$A$1:$B$2", 9, 9, "$A$1:$B$2"}, {"A1:B2", -1, 0, "#REF!"}, {"B1:C2", -1, 0, "A1:B2"}, {"A1:AZ2", 1, 0, "#REF!"}, {"A98:B99", 0, 1, "#REF!"}, {"$A98:$B98", 0, 1, "$A99:$B99"},
		{"$A1:A1", 3, 0, "$A1:D1"}, {"A1:$D1", 3, 0, "D1:$D1"}, {"A1:$D1", 4, 0, "$D1:E1"}, {"A1:$D1", 8, 0, "$D1:I1"}, {"A1:D$4", 0, 3, "A4:D$4"}, {"A1:D$4", 0, 4, "A$4:D5"}, {"A1:$B$2", 2, 3, "$B$2:C4"}, {"S!A1:$B$2", 2, 3, "S!$B$2:C4"}, {"A1:B$2", 0, 3, "A$2:B4"}, {"$A1:$B$2", 7, 3, "$A$2:$B4"}, {"A$1:$B2", 4, 0, "$B$1:E2"}, {"S!B$9:$D10", 5, -5, "S!$D5:G$9"}, {"$C5:D5", -2, 0, "B5:$C5"}, {"$C$5:D6", -2, -4, "B2:$C$5"},
		{"$A$1:C66", 0, 0, "$A$1:C66"}, {"$A$1:B67", 0, 33, "#REF!"}, {"$A$1:B67", 0, 32, "$A$1:B99"}, {"$A$1:B67", 1, 0, "#REF!"}, {"$A$1:T9", 0, 1, "$A$1:T10"}, {"$A$1:T9", 0, 2, "#REF!"}, {"$A$1:T9", 1, 1, "#REF!"}, {"$A$1:T9", 2, 0, "$A$1:V9"}, {"$A$1:T9", 3, 0, "#REF!"},
		{"SUM(A1:B2,C3)+(D4-$E5)*2%", 1, 1, "SUM(B2:C3,D4)+(E5-$E6)*2%"}, {"SUM(A1:B2,C3)", -1, 0, "SUM(#REF!,B3)"}, {"-A1^-B2", -1, 0, "-#REF!^-A2"}, {`F(1,"x",TRUE,A1,G(H(B1)))`, 0, 1, `F(1,"x",TRUE,A2,G(H(B2)))`},
	} {
		f, e := rewrite.Move(formula(t, c.f), c.cols, c.rows)
		if got := told(t, f, e); got != c.want {
			t.Errorf("Move of %q, %d, %d: %s, want %s", c.f, c.cols, c.rows, got, c.want)
		}
	}
	for _, f := range broken() {
		if got, e := rewrite.Move(f, 0, 0); told(t, got, e) != "error" || e != api.ErrForm {
			t.Errorf("Move of %+v: %+v %d", f, got, e)
		}
	}
}

// P16.1: Insert and Delete of cells, and of areas; the chapter's example first.
func TestInsertDelete(t *testing.T) {
	for _, c := range []struct {
		f          string
		way, at, n int
		ins, del   string
	}{
		{"A1+A5", ref.Rows, 3, 1, "A1+A6", "A1+A4"}, {"A3", ref.Rows, 3, 1, "A4", "#REF!"},
		{"B5", ref.Rows, 3, 2, "B7", "B3"}, {"B5", ref.Cols, 1, 1, "C5", "A5"}, {"$B$5", ref.Cols, 1, 1, "$C$5", "$A$5"}, {"$B$5", ref.Rows, 2, 3, "$B$8", "$B$2"}, {"$B$5", ref.Rows, 2, 4, "$B$9", "#REF!"}, {"$B$5", ref.Rows, 2, 2, "$B$7", "$B$3"}, {"B5", ref.Rows, 6, 1, "B5", "B5"}, {"B5", ref.Cols, 3, 9, "B5", "B5"}, {"S!B5", ref.Rows, 5, 1, "S!B6", "#REF!"},
		{"A1", ref.Cols, 1, 51, "AZ1", "#REF!"}, {"A1", ref.Cols, 1, 52, "#REF!", "#REF!"}, {"A1", ref.Rows, 1, 98, "A99", "#REF!"}, {"A1", ref.Rows, 1, 99, "#REF!", "#REF!"}, {"AZ99", ref.Cols, 52, 1, "#REF!", "#REF!"}, {"AZ99", ref.Rows, 99, 99, "#REF!", "#REF!"}, {"AZ99", ref.Cols, 51, 1, "#REF!", "AY99"}, {"AY99", ref.Cols, 52, 52, "AY99", "AY99"},
		{"A1:A5", ref.Rows, 3, 2, "A1:A7", "A1:A3"}, {"A3:A5", ref.Rows, 3, 2, "A5:A7", "A3:A3"}, {"A3:A5", ref.Rows, 5, 1, "A3:A6", "A3:A4"}, {"A3:A5", ref.Rows, 6, 1, "A3:A5", "A3:A5"}, {"A3:A5", ref.Rows, 1, 2, "A5:A7", "A1:A3"}, {"A3:A5", ref.Rows, 2, 2, "A5:A7", "A2:A3"}, {"A3:A5", ref.Rows, 2, 9, "A12:A14", "#REF!"}, {"A3:A5", ref.Rows, 3, 3, "A6:A8", "#REF!"}, {"A3:A5", ref.Rows, 4, 9, "A3:A14", "A3:A3"}, {"A3:A5", ref.Cols, 1, 1, "B3:B5", "#REF!"}, {"A3:A5", ref.Cols, 2, 1, "A3:A5", "A3:A5"}, {"$A$3:A5", ref.Rows, 1, 1, "$A$4:A6", "$A$2:A4"}, {"S!A3:$B$5", ref.Rows, 4, 1, "S!A3:$B$6", "S!A3:$B$4"}, {"B3:D5", ref.Cols, 3, 1, "B3:E5", "B3:C5"}, {"B3:D5", ref.Cols, 1, 9, "K3:M5", "#REF!"},
		{"A3:A98", ref.Rows, 50, 5, "A3:A99", "A3:A93"}, {"A3:A98", ref.Rows, 3, 95, "A98:A99", "A3:A3"}, {"A3:A98", ref.Rows, 3, 96, "A99:A99", "#REF!"}, {"A3:A98", ref.Rows, 3, 97, "#REF!", "#REF!"}, {"AX1:AZ1", ref.Cols, 52, 1, "AX1:AZ1", "AX1:AY1"}, {"AX1:AZ1", ref.Cols, 50, 3, "#REF!", "#REF!"},
		{"A1:B99", ref.Cols, 2, 1, "#REF!", "A1:A99"}, {"A1:B99", ref.Cols, 1, 1, "B1:C99", "A1:A99"}, {"A1:B99", ref.Rows, 2, 1, "A1:B99", "A1:B98"}, {"A1:T10", ref.Rows, 10, 1, "#REF!", "A1:T9"}, {"A1:T10", ref.Rows, 11, 1, "A1:T10", "A1:T10"}, {"A1:T10", ref.Cols, 20, 1, "#REF!", "A1:S10"}, {"S!A1:T10", ref.Cols, 2, 1, "#REF!", "S!A1:S10"}, {"A1:T9", ref.Rows, 9, 1, "A1:T10", "A1:T8"}, {"A1:T9", ref.Rows, 9, 2, "#REF!", "A1:T8"},
		{"SUM(A1:B9,C5,S!C5)*(D5-1)", ref.Rows, 5, 1, "SUM(A1:B10,C6,S!C6)*(D6-1)", "SUM(A1:B8,#REF!,#REF!)*(#REF!-1)"}, {`F("A1",1,TRUE,#N/A)`, ref.Rows, 1, 1, `F("A1",1,TRUE,#N/A)`, `F("A1",1,TRUE,#N/A)`}, {"A1(B2)", ref.Rows, 1, 1, "A1(B3)", "A1(B1)"},
	} {
		ins, e := rewrite.Insert(formula(t, c.f), "S", "S", c.way, c.at, c.n)
		del, d := rewrite.Delete(formula(t, c.f), "S", "S", c.way, c.at, c.n)
		if got := told(t, ins, e); got != c.ins {
			t.Errorf("Insert of %q, %d, %d, %d: %s, want %s", c.f, c.way, c.at, c.n, got, c.ins)
		}
		if got := told(t, del, d); got != c.del {
			t.Errorf("Delete of %q, %d, %d, %d: %s, want %s", c.f, c.way, c.at, c.n, got, c.del)
		}
	}
}

// P16.1: just the references to that sheet follow.
func TestSheets(t *testing.T) {
	for _, c := range []struct{ own, sheet, ins string }{
		{"S", "S", "B1+S!B1+T!A1+F(B1:C2,S!B1:C2,T!A1:B2)"}, {"T", "T", "B1+S!A1+T!B1+F(B1:C2,S!A1:B2,T!B1:C2)"}, {"S", "T", "A1+S!A1+T!B1+F(A1:B2,S!A1:B2,T!B1:C2)"}, {"T", "S", "A1+S!B1+T!A1+F(A1:B2,S!B1:C2,T!A1:B2)"}, {"U", "U", "B1+S!A1+T!A1+F(B1:C2,S!A1:B2,T!A1:B2)"}, {"U", "S", "A1+S!B1+T!A1+F(A1:B2,S!B1:C2,T!A1:B2)"},
		{"U", "", "B1+S!A1+T!A1+F(B1:C2,S!A1:B2,T!A1:B2)"}, {"", "", "B1+S!A1+T!A1+F(B1:C2,S!A1:B2,T!A1:B2)"}, {"", "S", "A1+S!B1+T!A1+F(A1:B2,S!B1:C2,T!A1:B2)"}, {"S", "U", "A1+S!A1+T!A1+F(A1:B2,S!A1:B2,T!A1:B2)"}, {"S", "s", "A1+S!A1+T!A1+F(A1:B2,S!A1:B2,T!A1:B2)"}, {"\xff", "\xff", "B1+S!A1+T!A1+F(B1:C2,S!A1:B2,T!A1:B2)"},
	} {
		s := "A1+S!A1+T!A1+F(A1:B2,S!A1:B2,T!A1:B2)"
		f, e := rewrite.Insert(formula(t, s), c.own, c.sheet, ref.Cols, 1, 1)
		if got := told(t, f, e); got != c.ins {
			t.Errorf("Insert of %q in %q: %s, want %s", c.sheet, c.own, got, c.ins)
		}
		back, e := rewrite.Delete(f, c.own, c.sheet, ref.Cols, 1, 1)
		if got := told(t, back, e); got != s {
			t.Errorf("Delete of %q in %q: %s, want %s", c.sheet, c.own, got, s)
		}
		if got := rewrite.Uses(formula(t, s), c.own, c.sheet); got != (c.ins != s) {
			t.Errorf("Uses of %q in %q: %v", c.sheet, c.own, got)
		}
	}
}

// P16.1: ErrForm ahead of ErrArg; ErrArg, whatever the formula is.
func TestInsertDeleteRefused(t *testing.T) {
	check := func(f api.Formula, own, sheet string, way, at, n int, want api.Errno) {
		t.Helper()
		ins, e := rewrite.Insert(f, own, sheet, way, at, n)
		del, d := rewrite.Delete(f, own, sheet, way, at, n)
		if e != want || d != want {
			t.Errorf("%+v, %q %q %d %d %d: %d %d, want %d", f, own, sheet, way, at, n, e, d, want)
		}
		told(t, ins, e)
		told(t, del, d)
	}
	for _, f := range broken() {
		check(f, "S", "S", ref.Rows, 1, 1, api.ErrForm)
		check(f, "S", "S", 2, 0, 0, api.ErrForm)
	}
	for _, s := range []string{"1", "A1", "A1:B2", "S!A1", "#REF!", "F(A1,1)"} {
		f := formula(t, s)
		for _, sheet := range []string{"", "S", "T"} {
			for _, way := range []int{-1, 2, math.MinInt, math.MaxInt, 1 << 32} {
				check(f, "S", sheet, way, 1, 1, api.ErrArg)
			}
			for _, at := range []int{0, -1, math.MinInt, math.MaxInt} {
				check(f, "S", sheet, ref.Cols, at, 1, api.ErrArg)
				check(f, "S", sheet, ref.Rows, at, 1, api.ErrArg)
				check(f, "S", sheet, ref.Cols, 1, at, api.ErrArg)
				check(f, "S", sheet, ref.Rows, 1, at, api.ErrArg)
			}
			check(f, "S", sheet, ref.Cols, 53, 1, api.ErrArg)
			check(f, "S", sheet, ref.Cols, 1, 53, api.ErrArg)
			check(f, "S", sheet, ref.Rows, 100, 1, api.ErrArg)
			check(f, "S", sheet, ref.Rows, 1, 100, api.ErrArg)
			for _, at := range []int{1, 52} {
				check(f, "S", sheet, ref.Cols, at, 1, api.OK)
				check(f, "S", sheet, ref.Cols, at, 52, api.OK)
			}
			for _, at := range []int{1, 53, 99} {
				check(f, "S", sheet, ref.Rows, at, 1, api.OK)
				check(f, "S", sheet, ref.Rows, at, 99, api.OK)
			}
		}
	}
}

// P16.2: Rename.
func TestRename(t *testing.T) {
	for _, c := range []struct{ f, old, fresh, want string }{
		{"S!A1+T!A1+A1", "S", "U", "U!A1+T!A1+A1"}, {"S!A1+T!A1+A1", "S", "T", "T!A1+T!A1+A1"}, {"S!A1+T!A1+A1", "S", "S", "S!A1+T!A1+A1"}, {"S!A1+T!A1+A1", "", "U", "S!A1+T!A1+A1"}, {"S!A1+T!A1+A1", "s", "U", "S!A1+T!A1+A1"}, {"S!A1+T!A1+A1", "U", "V", "S!A1+T!A1+A1"}, {"S!A1+T!A1+A1", "A1", "V", "S!A1+T!A1+A1"},
		{"S!$A$1:B2+A1:B2", "S", "Sheet_1", "Sheet_1!$A$1:B2+A1:B2"}, {"SUM(S!A1:A3,S!B1,SUM!A1)", "SUM", "x", "SUM(S!A1:A3,S!B1,x!A1)"}, {"SUM(S!A1:A3,S!B1)", "S", "abcdefghijkl", "SUM(abcdefghijkl!A1:A3,abcdefghijkl!B1)"}, {`"S!A1"&"S"`, "S", "U", `"S!A1"&"S"`}, {"S()", "S", "U", "S()"}, {"1", "S", "U", "1"},
	} {
		f, e := rewrite.Rename(formula(t, c.f), c.old, c.fresh)
		if got := told(t, f, e); got != c.want {
			t.Errorf("Rename of %q, %q, %q: %s, want %s", c.f, c.old, c.fresh, got, c.want)
		}
	}
	for _, fresh := range []string{"", "A1", "a1", "AZ99", "ZZ999", "A0", "TRUE", "false", "1x", "_x", "a b", "a!", "abcdefghijklm", "é", "\xff", strings.Repeat("x", 1_000_000)} {
		for _, s := range []string{"S!A1", "A1", "1"} {
			for _, old := range []string{"S", "", "T", fresh} {
				if f, e := rewrite.Rename(formula(t, s), old, fresh); told(t, f, e) != "error" || e != api.ErrName {
					t.Errorf("Rename of %q, %q, %q: %+v %d", s, old, fresh, f, e)
				}
			}
		}
	}
	for _, f := range broken() {
		for _, fresh := range []string{"S", ""} {
			if got, e := rewrite.Rename(f, "S", fresh); told(t, got, e) != "error" || e != api.ErrForm {
				t.Errorf("Rename of %+v: %+v %d", f, got, e)
			}
		}
	}
}

// P16.2: Uses.
func TestUses(t *testing.T) {
	for _, c := range []struct {
		f, own, sheet string
		want          bool
	}{
		{"A1", "S", "S", true}, {"A1", "S", "T", false}, {"A1", "", "", true}, {"A1", "S", "", true}, {"A1", "", "S", false}, {"S!A1", "T", "S", true}, {"S!A1", "S", "S", true}, {"S!A1", "T", "T", false}, {"S!A1", "T", "", false}, {"S!A1", "", "", false}, {"S!A1", "T", "s", false},
		{"A1:B2", "S", "S", true}, {"A1:B2", "S", "", true}, {"S!A1:B2", "T", "S", true}, {"S!A1:B2", "T", "T", false}, {"S!A1:B2", "T", "", false}, {"F(1,-(2+S!A1)%)", "T", "S", true}, {"F(A1,S!A1)", "T", "S", true}, {"F(S!A1,A1)", "T", "T", true}, {"1+A1", "S", "S", true}, {"A1+1", "S", "S", true},
		{"1", "S", "S", false}, {"1", "", "", false}, {"F()", "S", "S", false}, {`"S!A1"`, "S", "S", false}, {"#REF!", "", "", false}, {"#REF!+TRUE", "S", "S", false}, {"S()", "T", "S", false}, {"-1%", "", "", false},
	} {
		if got := rewrite.Uses(formula(t, c.f), c.own, c.sheet); got != c.want {
			t.Errorf("Uses of %q, %q, %q: %v", c.f, c.own, c.sheet, got)
		}
	}
	for _, f := range broken() {
		for _, sheet := range []string{"S", "A1", ""} {
			if rewrite.Uses(f, sheet, sheet) {
				t.Errorf("Uses of %+v, %q", f, sheet)
			}
		}
	}
}

// Rules 4 and 5: formulas that are handed in stay, and those that are answered share nothing with them.
func TestAnswersAreNew(t *testing.T) {
	s := "F(A1,S!B2:C3,1)+2"
	for name, call := range map[string]func(f api.Formula) (api.Formula, api.Errno){
		"Move":   func(f api.Formula) (api.Formula, api.Errno) { return rewrite.Move(f, 0, 0) },
		"Moved":  func(f api.Formula) (api.Formula, api.Errno) { return rewrite.Move(f, 1, 1) },
		"Insert": func(f api.Formula) (api.Formula, api.Errno) { return rewrite.Insert(f, "S", "S", ref.Rows, 1, 1) },
		"Other":  func(f api.Formula) (api.Formula, api.Errno) { return rewrite.Insert(f, "S", "T", ref.Rows, 1, 1) },
		"Delete": func(f api.Formula) (api.Formula, api.Errno) { return rewrite.Delete(f, "S", "S", ref.Rows, 1, 1) },
		"Rename": func(f api.Formula) (api.Formula, api.Errno) { return rewrite.Rename(f, "S", "T") },
	} {
		f := formula(t, s)
		g, e := call(f)
		if e != api.OK || !ast.Same(f, formula(t, s)) {
			t.Errorf("%s: %d, and left %+v", name, e, f)
		}
		clear(g.Nodes)
		clear(g.Args)
		_, _ = append(g.Nodes, api.Node{Kind: 99}), append(g.Args, 99)
		if !ast.Same(f, formula(t, s)) {
			t.Errorf("%s shares its answer: %+v", name, f)
		}
		first, _ := call(f)
		clear(f.Nodes)
		clear(f.Args)
		if again, _ := call(formula(t, s)); !ast.Same(first, again) {
			t.Errorf("%s keeps what was handed in", name)
		}
	}
}

// P16.1, P16.2: formulas with as many nodes as there may be, and as deep ones.
func TestMost(t *testing.T) {
	for s, want := range map[string]string{
		"A1" + strings.Repeat("%", 290):                                   "B2" + strings.Repeat("%", 290),
		strings.Repeat("-", 24) + "A1":                                    strings.Repeat("-", 24) + "B2",
		strings.Repeat("F(", 24) + "A1" + strings.Repeat(")", 24):         strings.Repeat("F(", 24) + "B2" + strings.Repeat(")", 24),
		"F(A1" + strings.Repeat(",A1", 19) + ")":                          "F(B2" + strings.Repeat(",B2", 19) + ")",
		"A1" + strings.Repeat("+1", 140):                                  "B2" + strings.Repeat("+1", 140),
		strings.Repeat("A1&", 90) + "A1":                                  strings.Repeat("B2&", 90) + "B2",
		strings.Repeat("1-(", 24) + "A1-A1" + strings.Repeat(")", 24):     strings.Repeat("1-(", 24) + "B2-B2" + strings.Repeat(")", 24),
		"F(" + strings.Repeat("G(),", 19) + "SUM(A1,$A$1:A1))":            "F(" + strings.Repeat("G(),", 19) + "SUM(B2,$A$1:B2))",
		"F(A1,G(A1,H(A1)),(A1+1)*2)^G(1,A1)":                              "F(B2,G(B2,H(B2)),(B2+1)*2)^G(1,B2)",
		"F(" + strings.Repeat("A1:A2,", 19) + "A1:A2)":                    "F(" + strings.Repeat("B2:B3,", 19) + "B2:B3)",
		"IF(A1=\"" + strings.Repeat("x", 200) + "\",#N/A,SUM(S!A1:$C$3))": "IF(B2=\"" + strings.Repeat("x", 200) + "\",#N/A,SUM(S!B2:$C$3))",
	} {
		f, e := rewrite.Move(formula(t, s), 1, 1)
		if got := told(t, f, e); got != want {
			t.Errorf("Move of %q: %s, want %s", s, got, want)
		}
	}
	// What follows may have no text any more.
	f := formula(t, strings.Repeat("S!A1+", 59)+"S!A1")
	long, e := rewrite.Rename(f, "S", "abcdefghijkl")
	if _, printed := print.Formula(long); e != api.OK || printed != api.ErrLong || !ast.Right(long) {
		t.Errorf("Rename to a long name: %d, and its text %d", e, printed)
	}
	if back, e := rewrite.Rename(long, "abcdefghijkl", "S"); e != api.OK || !ast.Same(back, f) {
		t.Errorf("Rename back: %+v %d", back, e)
	}
	cells := api.Formula{Nodes: []api.Node{formula(t, "A9").Nodes[0]}}
	for range 149 {
		cells, _ = ast.Two(api.OpAdd, cells, formula(t, "A9"))
	}
	if moved, e := rewrite.Move(cells, 0, 1); e != api.OK || !ast.Right(moved) || moved.Nodes[298].Kind != api.NdBinary || moved.Nodes[297] != formula(t, "A10").Nodes[0] {
		t.Errorf("Move of 299 nodes: %d", e)
	}
}
