package print_test

import (
	"math/big"
	"slices"
	"strings"
	"testing"

	"abacist/api"
	"abacist/ast"
	"abacist/parse"
	"abacist/print"
	"abacist/rat"
	"abacist/ref"
	"abacist/whole"
)

// formula is that of a node alone.
func formula(t *testing.T, n api.Node) api.Formula {
	t.Helper()
	f, e := ast.Leaf(n)
	if e != api.OK {
		t.Fatalf("Leaf of %+v: %d", n, e)
	}
	return f
}

// quotient is the number n by d, both in decimal digits.
func quotient(t *testing.T, n, d string) api.Node {
	t.Helper()
	above, e1 := whole.Parse(n)
	below, e2 := whole.Parse(d)
	r, e3 := rat.Make(above, below)
	if e1 != api.OK || e2 != api.OK || e3 != api.OK {
		t.Fatalf("%s by %s: %d %d %d", n, d, e1, e2, e3)
	}
	return api.Node{Kind: api.NdNumber, Num: r}
}

func text(s string) api.Node { return api.Node{Kind: api.NdText, Text: s} }

func number(n int64) api.Node { return api.Node{Kind: api.NdNumber, Num: rat.Of(n)} }

// check tells whether a formula has a text, and that text the formula.
func check(t *testing.T, f api.Formula, want string) {
	t.Helper()
	got, e := print.Formula(f)
	if got != want || e != api.OK {
		t.Errorf("Formula of %+v: %q %d, want %q", f, got, e, want)
		return
	}
	if back, at, e := parse.Formula(got); !ast.Same(back, f) || at != 0 || e != api.OK {
		t.Errorf("%q is parsed to %+v %d %d, not to %+v", got, back, at, e, f)
	}
}

// refused tells whether a formula has no text.
func refused(t *testing.T, f api.Formula, want api.Errno) {
	t.Helper()
	if got, e := print.Formula(f); got != "" || e != want {
		t.Errorf("Formula of %+v: %q %d, want %d", f, got, e, want)
	}
}

// P15.1: numbers, in digits also where they are seen with a slash.
func TestNumbers(t *testing.T) {
	power := func(base, n int64) string {
		return new(big.Int).Exp(big.NewInt(base), big.NewInt(n), nil).String()
	}
	for _, c := range []struct{ n, d, want string }{
		{"0", "1", "0"}, {"7", "1", "7"}, {"10", "1", "10"}, {"1000000", "1", "1000000"}, {"5", "2", "2.5"}, {"1", "8", "0.125"}, {"1", "1000", "0.001"}, {"100001", "100", "1000.01"}, {"7", "625", "0.0112"},
		{"1", power(2, 20), "0.00000095367431640625"},
		{"1", power(2, 21), "0.000000476837158203125"},
		{"3", power(5, 21), "0.000000000000006291456"},
		{"1", power(10, 30), "0.000000000000000000000000000001"},
	} {
		check(t, formula(t, quotient(t, c.n, c.d)), c.want)
	}
	most := new(big.Int).Sub(new(big.Int).Lsh(big.NewInt(1), 256), big.NewInt(1))
	check(t, formula(t, quotient(t, most.String(), "1")), most.String())
	for _, d := range []string{power(2, 255), power(5, 110), power(10, 77)} {
		den, _ := new(big.Int).SetString(d, 10)
		want := new(big.Rat).SetFrac(most, den).FloatString(300)
		check(t, formula(t, quotient(t, most.String(), d)), strings.TrimRight(want, "0"))
	}
	check(t, formula(t, quotient(t, "1", power(2, 255))), strings.TrimRight(new(big.Rat).SetFrac(big.NewInt(1), new(big.Int).Lsh(big.NewInt(1), 255)).FloatString(300), "0"))
}

// P15.1: texts, truths, and faults' names.
func TestTextsTruthsFaults(t *testing.T) {
	for s, want := range map[string]string{"": `""`, "a": `"a"`, `"`: `""""`, `""`: `""""""`, `a"b`: `"a""b"`, `a""b`: `"a""""b"`, " ": `" "`, "a  b ": `"a  b "`, "'": `"'"`, "12": `"12"`, "TRUE": `"TRUE"`, "#N/A": `"#N/A"`, "=A1": `"=A1"`, "1+2": `"1+2"`, `\n`: `"\n"`, "~}": `"~}"`, strings.Repeat("x", 200): `"` + strings.Repeat("x", 200) + `"`} {
		check(t, formula(t, text(s)), want)
	}
	check(t, formula(t, api.Node{Kind: api.NdTruth, Truth: true}), "TRUE")
	check(t, formula(t, api.Node{Kind: api.NdTruth}), "FALSE")
	for n, name := range []string{1: "#DIV/0!", 2: "#VALUE!", 3: "#REF!", 4: "#NAME?", 5: "#NUM!", 6: "#N/A", 7: "#CIRC!"} {
		if n > 0 {
			check(t, formula(t, api.Node{Kind: api.NdFault, Op: n}), name)
		}
	}
}

// P15.1: references, and areas.
func TestPlaces(t *testing.T) {
	for _, sheet := range []string{"", "S", "Sheet_1", "abcdefghijkl", "SUM", "TRUE1"} {
		for _, col := range []string{"A", "$A", "Z", "$AA", "AZ"} {
			for _, row := range []string{"1", "$1", "10", "$99"} {
				want := col + row
				if sheet != "" {
					want = sheet + "!" + want
				}
				r, e := ref.Parse(want)
				if e != api.OK {
					t.Fatalf("%q: %d", want, e)
				}
				check(t, formula(t, api.Node{Kind: api.NdCell, Ref: r}), want)
				check(t, formula(t, api.Node{Kind: api.NdArea, Ref: r, To: api.Ref{Col: r.Col, Row: r.Row}}), want+":"+strings.ReplaceAll(col+row, "$", ""))
				check(t, formula(t, api.Node{Kind: api.NdArea, Ref: r, To: api.Ref{Col: r.Col, Row: r.Row, FixCol: true, FixRow: true}}), want+":$"+strings.ReplaceAll(col, "$", "")+"$"+strings.ReplaceAll(row, "$", ""))
			}
		}
	}
	check(t, formula(t, api.Node{Kind: api.NdArea, Ref: api.Ref{Sheet: "x", Col: 2, Row: 3, FixRow: true}, To: api.Ref{Col: 27, Row: 9, FixCol: true}}), "x!B$3:$AA9")
}

// asIs are texts that formulas have as they stand.
var asIs = []string{
	"1+2", "1-2-3", "1-(2-3)", "1-(2+3)", "1+(2+3)", "(1+2)*3", "1+2*3", "1*(2*3)", "1*2/3", "1/(2*3)", "2^3^4", "2^(3^4)", "-2^2", "-(2^2)", "2^-2", "2^-2%", "(-2)%", "-2%", "2%%", "--2", "-(1+2)", "-(1=2)", "(1+2)%", "(2^2)%", "2^2%", "1--2", "1-(-2-3)", "1*-2", "-1*2", "-(1*2)",
	"1=2", "1=2=3", "1=(2=3)", "1<>2<3", "1<(2>3)", "1<=2>=3", "1&2=3", "(1=2)&3", "1&(2=3)", "1&2&3", "1&(2&3)", "1+2&3", "1&2+3", "(1&2)+3", "1=-2", "1<-2", "1>-2", `"a"&"b"`, `""=""`, `("a"="b")&"c"`,
	"F()", "F(1)", "F(1,2,3)", "F(1+2,3=4,-5)", "F((1+2)*3)", "F(G(1),H(),I(J()))", "F()+1", "1+F()", "-F(1)", "F(1)%", "F(1)^G(2)", "A1(2)", "TRUE()", "FALSE(TRUE,FALSE)", "LOG10(A1)", "ABCDEFGHIJKL()", "SUM(A1:B2,S!A1,S!$A$1:B$2)", "A1:B2", "A1:B2%", "A1:B2+C3", "S!A1:B2&S!C3", "F(A1,$B2)", "IF(A1>0,\"a\"\"b\",#N/A)", "#REF!+1", "-#DIV/0!", "#N/A%", "TRUE=FALSE", "-TRUE", "1.5%", "0.25^0.5", "((1+2)*3+4)*5",
}

// P15.1, P15.2, P15.3: texts that formulas have as they stand.
func TestAsIs(t *testing.T) {
	for _, s := range asIs {
		f, at, e := parse.Formula(s)
		if e != api.OK {
			t.Fatalf("%q: %d %d", s, at, e)
		}
		check(t, f, s)
	}
}

// P15.1, P15.3: texts that are told otherwise; the chapter's second example first.
func TestTold(t *testing.T) {
	for s, want := range map[string]string{
		"((1)+2)": "1+2", "(1+2)*3": "(1+2)*3", "(1*2)+3": "1*2+3", "1+(2*3)": "1+2*3", "((1+2))": "1+2", "(1)%": "1%", "(1%)%": "1%%", "(1-2)-3": "1-2-3", "-(-1)": "--1", "-(1%)": "-1%", "(-1)^2": "-1^2", "2^(-1)": "2^-1", "F((1))": "F(1)", "F((1+2),(3=4))": "F(1+2,3=4)", "(F(1))": "F(1)", "(A1:B2)": "A1:B2", "1*((2+3))": "1*(2+3)", "(1=2)=3": "1=2=3", "1=(2&3)": "1=2&3", "(\"a\")": `"a"`, "(1^2)*(3^4)": "1^2*3^4", "((((1))))-((2)-(3))": "1-(2-3)", "(-1)-(-2)": "-1--2",
		" 1 + 2 ": "1+2", "F( 1 , 2 )": "F(1,2)", "F ( )": "F()", " S ! A1 : B2 ": "S!A1:B2", "- 1 %": "-1%", `" a " & " b "`: `" a "&" b "`, "1 <> 2": "1<>2", " #N/A ": "#N/A", " TRUE ": "TRUE",
		"007": "7", "2.50": "2.5", "1.0": "1", "0.0": "0", "00.10": "0.1", "0.0000000000000000000000000000": "0", "0.00000000000000000000000000001": "0.00000000000000000000000000001",
		"B2:A1": "A1:B2", "B$1:$A2": "$A$1:B2", "S!$B$2:A1": "S!A1:$B$2", "$A2:A1": "$A1:A2", "AZ99:AG90": "AG90:AZ99",
	} {
		f, at, e := parse.Formula(s)
		if e != api.OK {
			t.Fatalf("%q: %d %d", s, at, e)
		}
		check(t, f, want)
	}
}

// signs are the operators' texts, level by level, as chapter 14 tells them.
var signs = [][]string{1: {"=", "<>", "<", "<=", ">", ">="}, 2: {"&"}, 3: {"+", "-"}, 4: {"*", "/"}, 5: {"^"}}

// P15.1: brackets of each operator within each other one.
func TestBrackets(t *testing.T) {
	within := func(s string, needed bool) string {
		if needed {
			return "(" + s + ")"
		}
		return s
	}
	as := func(s, want string) {
		t.Helper()
		f, at, e := parse.Formula(s)
		if e != api.OK {
			t.Fatalf("%q: %d %d", s, at, e)
		}
		check(t, f, want)
	}
	for outer, outers := range signs {
		for _, a := range outers {
			for inner, inners := range signs {
				for _, b := range inners {
					kid := "1" + b + "2"
					as("("+kid+")"+a+"3", within(kid, inner < outer)+a+"3")
					as("3"+a+"("+kid+")", "3"+a+within(kid, inner <= outer))
				}
			}
			kid := "1" + a + "2"
			as("-("+kid+")", "-("+kid+")")
			as("("+kid+")%", "("+kid+")%")
			as("F("+kid+",("+kid+"))", "F("+kid+","+kid+")")
			for _, single := range []string{"-1", "1%", "-1%", "F(1)", "A1", "A1:B2", `"a"`, "TRUE", "#N/A", "2.5"} {
				as("("+single+")"+a+"("+single+")", single+a+single)
			}
		}
	}
}

// P15.1: of what can not be; also where its text would be too long.
func TestNoFormula(t *testing.T) {
	long := text(strings.Repeat(`"`, 200))
	sum, _ := ast.Two(api.OpAdd, formula(t, number(1)), formula(t, number(2)))
	for _, f := range []api.Formula{
		{}, {Nodes: []api.Node{}}, {Nodes: []api.Node{{}}}, {Args: []int{0}}, {Nodes: []api.Node{{Kind: 10}}}, {Nodes: []api.Node{{Kind: -1}}},
		{Nodes: []api.Node{number(-1)}}, {Nodes: []api.Node{quotient(t, "1", "3")}}, {Nodes: []api.Node{{Kind: api.NdNumber}}}, {Nodes: []api.Node{{Kind: api.NdNumber, Num: api.Rat{Num: "\x02", Den: "\x02"}}}},
		{Nodes: []api.Node{text("\n")}}, {Nodes: []api.Node{text("é")}}, {Nodes: []api.Node{text(strings.Repeat("x", 201))}},
		{Nodes: []api.Node{{Kind: api.NdFault}}}, {Nodes: []api.Node{{Kind: api.NdFault, Op: 8}}},
		{Nodes: []api.Node{{Kind: api.NdCell}}}, {Nodes: []api.Node{{Kind: api.NdCell, Ref: api.Ref{Sheet: "A1", Col: 1, Row: 1}}}}, {Nodes: []api.Node{{Kind: api.NdCell, Ref: api.Ref{Col: 53, Row: 1}}}},
		{Nodes: []api.Node{{Kind: api.NdArea, Ref: api.Ref{Col: 2, Row: 1}, To: api.Ref{Col: 1, Row: 1}}}}, {Nodes: []api.Node{{Kind: api.NdArea, Ref: api.Ref{Col: 1, Row: 1}, To: api.Ref{Col: 52, Row: 99}}}}, {Nodes: []api.Node{{Kind: api.NdArea, Ref: api.Ref{Col: 1, Row: 1}, To: api.Ref{Sheet: "S", Col: 1, Row: 1}}}},
		{Nodes: []api.Node{{Kind: api.NdUnary, Op: api.OpNeg}}}, {Nodes: []api.Node{{Kind: api.NdUnary, Op: api.OpNeg, A: -1}}}, {Nodes: []api.Node{{Kind: api.NdBinary, Op: api.OpAdd, A: 1 << 62, B: -1 << 63}}}, {Nodes: []api.Node{{Kind: api.NdCall, Text: "f"}}}, {Nodes: []api.Node{{Kind: api.NdCall, Text: "F", B: 1}}}, {Nodes: []api.Node{{Kind: api.NdCall, Text: "F", A: 1 << 62, B: 20}}},
		{Nodes: append(slices.Clone(sum.Nodes), sum.Nodes...)}, {Nodes: sum.Nodes, Args: []int{0}}, {Nodes: sum.Nodes[:2]},
		{Nodes: []api.Node{long, {Kind: api.NdUnary, Op: api.OpAdd}}}, {Nodes: []api.Node{long, long}}, {Nodes: slices.Repeat([]api.Node{long}, 301)},
	} {
		refused(t, f, api.ErrForm)
	}
}

// P15.1: texts with just as many bytes as there may be, and with one more.
func TestLong(t *testing.T) {
	of := func(n int) api.Formula { return formula(t, text(strings.Repeat(`"`, n/2-1)+strings.Repeat("x", n%2))) }
	for n := 2; n <= 300; n++ {
		check(t, of(n), `"`+strings.Repeat(`""`, n/2-1)+strings.Repeat("x", n%2)+`"`)
	}
	for n := 301; n <= 402; n++ {
		refused(t, of(n), api.ErrLong)
	}
	one := formula(t, number(1))
	for n := 200; n <= 320; n++ {
		negative, _ := ast.One(api.OpNeg, of(n))
		percent, _ := ast.One(api.OpPercent, of(n))
		ahead, _ := ast.Two(api.OpLe, of(n), one)
		behind, _ := ast.Two(api.OpAdd, one, of(n))
		call, _ := ast.Call("SUM", one, of(n))
		bracketed, _ := ast.Two(api.OpMul, one, behind)
		for _, c := range []struct {
			f    api.Formula
			more int
		}{{negative, 1}, {percent, 1}, {ahead, 3}, {behind, 2}, {call, 7}, {bracketed, 6}} {
			if n+c.more > 300 {
				refused(t, c.f, api.ErrLong)
			} else if s, e := print.Formula(c.f); len(s) != n+c.more || e != api.OK {
				t.Errorf("Formula of %d bytes and %d more: %d bytes, %d", n, c.more, len(s), e)
			}
		}
	}
	joined := func(n int) api.Formula {
		f := formula(t, text("a"))
		for range n {
			f, _ = ast.Two(api.OpJoin, f, formula(t, text("b")))
		}
		return f
	}
	check(t, joined(74), `"a"`+strings.Repeat(`&"b"`, 74))
	refused(t, joined(75), api.ErrLong)
	var args []api.Formula
	var texts []string
	for i := range 20 {
		x := strings.Repeat("x", 11+i%2)
		args, texts = append(args, formula(t, text(x))), append(texts, `"`+x+`"`)
	}
	call, _ := ast.Call("ABCDEFGHI", args...)
	check(t, call, "ABCDEFGHI("+strings.Join(texts, ",")+")")
	call, _ = ast.Call("ABCDEFGHIJ", args...)
	refused(t, call, api.ErrLong)
}

// P15.1: as many nodes, and as deep, as a formula may be.
func TestMost(t *testing.T) {
	f := formula(t, number(1))
	for range 299 {
		f, _ = ast.One(api.OpPercent, f)
	}
	check(t, f, "1"+strings.Repeat("%", 299))
	f = formula(t, number(1))
	for range 149 {
		f, _ = ast.Two(api.OpAdd, f, formula(t, number(2)))
	}
	check(t, f, "1"+strings.Repeat("+2", 149))
	f = formula(t, number(1))
	for range 24 {
		f, _ = ast.One(api.OpNeg, f)
	}
	check(t, f, strings.Repeat("-", 24)+"1")
	f = formula(t, number(1))
	for range 25 {
		f, _ = ast.Two(api.OpSub, formula(t, number(1)), f)
	}
	check(t, f, strings.Repeat("1-(", 24)+"1-1"+strings.Repeat(")", 24))
	f = formula(t, number(1))
	for range 24 {
		f, _ = ast.Call("F", f)
	}
	check(t, f, strings.Repeat("F(", 24)+"1"+strings.Repeat(")", 24))
	longest := formula(t, text(strings.Repeat(`"`, 200)))
	f = longest
	for range 149 {
		f, _ = ast.Two(api.OpJoin, f, longest)
	}
	refused(t, f, api.ErrLong)
}

// P15.1: Quote, also of what no formula has.
func TestQuote(t *testing.T) {
	for s, want := range map[string]string{"": `""`, "a": `"a"`, `"`: `""""`, `a"b""c`: `"a""b""""c"`, `"a"`: `"""a"""`, "\x00\xff\n": "\"\x00\xff\n\"", "é": `"é"`, `'\`: `"'\"`} {
		if got := print.Quote(s); got != want {
			t.Errorf("Quote of %q: %q, want %q", s, got, want)
		}
	}
	for b := range 256 {
		want := `"` + string([]byte{byte(b)}) + `"`
		if b == '"' {
			want = `""""`
		}
		if got := print.Quote(string([]byte{byte(b)})); got != want {
			t.Errorf("Quote of byte %d: %q", b, got)
		}
	}
	if got := print.Quote(strings.Repeat(`"`, 1_000_000)); got != strings.Repeat(`"`, 2_000_002) {
		t.Error("Quote of a long text")
	}
}

// Rule 4: what is handed in stays as it is.
func TestFormulaStays(t *testing.T) {
	f, _, _ := parse.Formula("F(1,(A1+2)*3,G())")
	g := api.Formula{Nodes: slices.Clone(f.Nodes), Args: slices.Clone(f.Args)}
	for range 2 {
		check(t, f, "F(1,(A1+2)*3,G())")
	}
	if !ast.Same(f, g) {
		t.Errorf("a formula was changed: %+v", f)
	}
}
