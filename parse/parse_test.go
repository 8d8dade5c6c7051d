package parse_test

import (
	"math"
	"regexp"
	"slices"
	"strings"
	"testing"

	"abacist/api"
	"abacist/ast"
	"abacist/lex"
	"abacist/numtext"
	"abacist/parse"
	"abacist/ref"
)

// sign are the operators' texts, as chapter 12 tells the tokens.
var sign = map[int]string{1: "+", 2: "-", 3: "*", 4: "/", 5: "^", 6: "&", 7: "=", 8: "<>", 9: "<", 10: "<=", 11: ">", 12: ">=", 13: "-", 14: "%"}

// P14.1: Sign.
func TestSign(t *testing.T) {
	for op := -2; op < 40; op++ {
		if got := parse.Sign(op); got != sign[op] {
			t.Errorf("Sign of %d: %q", op, got)
		}
	}
	for _, op := range []int{math.MaxInt, math.MinInt, 1 << 32, 1<<32 + 1, 257, -255} {
		if got := parse.Sign(op); got != "" {
			t.Errorf("Sign of %d: %q", op, got)
		}
	}
}

var formOfName = regexp.MustCompile(`\A[A-Z][A-Z0-9]{0,11}\z`)

// P14.1: Named.
func TestNamed(t *testing.T) {
	for s, want := range map[string]bool{"A": true, "SUM": true, "A1": true, "LOG10": true, "TRUE": true, "ABCDEFGHIJKL": true, "A12345678901": true, "": false, "1": false, "1A": false, "a": false, "Sum": false, "SUM_": false, "$A": false, "A B": false, "ABCDEFGHIJKLM": false, "A123456789012": false, "É": false, "AÉ": false, "\xff": false, "A\xff": false, "Ａ": false, "A١": false} {
		if got := parse.Named(s); got != want {
			t.Errorf("Named of %q: %v", s, got)
		}
	}
	for _, s := range []string{"?", "?B", "A?", "A?C", "AB?", "ABCDEFGHIJK?", "?1", "ABCDEFGHIJKL?"} {
		for b := range 256 {
			name := strings.Replace(s, "?", string([]byte{byte(b)}), 1)
			if got := parse.Named(name); got != formOfName.MatchString(name) {
				t.Errorf("Named of %q: %v", name, got)
			}
			if _, e := ast.Call(name); parse.Named(name) != (e == api.OK) {
				t.Errorf("Named of %q, but ast.Call tells %d", name, e)
			}
		}
	}
	if parse.Named(strings.Repeat("A", 1_000_000)) {
		t.Error("Named of a long text")
	}
}

// number is the node of a number's text.
func number(t *testing.T, s string) api.Node {
	t.Helper()
	r, e := numtext.Decimal(s)
	if e != api.OK {
		t.Fatalf("%q: %d", s, e)
	}
	return api.Node{Kind: api.NdNumber, Num: r}
}

func unary(op, a int) api.Node { return api.Node{Kind: api.NdUnary, Op: op, A: a} }

func binary(op, a, b int) api.Node { return api.Node{Kind: api.NdBinary, Op: op, A: a, B: b} }

func call(name string, a, b int) api.Node {
	return api.Node{Kind: api.NdCall, Text: name, A: a, B: b}
}

func text(s string) api.Node { return api.Node{Kind: api.NdText, Text: s} }

func fault(n int) api.Node { return api.Node{Kind: api.NdFault, Op: n} }

// reference is that of a text.
func reference(t *testing.T, s string) api.Ref {
	t.Helper()
	r, e := ref.Parse(s)
	if e != api.OK {
		t.Fatalf("%q: %d", s, e)
	}
	return r
}

func cell(t *testing.T, s string) api.Node {
	return api.Node{Kind: api.NdCell, Ref: reference(t, s)}
}

func area(t *testing.T, from, to string) api.Node {
	return api.Node{Kind: api.NdArea, Ref: reference(t, from), To: reference(t, to)}
}

// check tells whether a text's formula has these nodes and Args.
func check(t *testing.T, s string, args []int, nodes ...api.Node) {
	t.Helper()
	f, at, e := parse.Formula(s)
	if want := (api.Formula{Nodes: nodes, Args: args}); !ast.Same(f, want) || at != 0 || e != api.OK || !ast.Right(f) {
		t.Errorf("Formula of %q: %+v %d %d, want %+v", s, f, at, e, want)
	}
}

// P14.2: what has neither operators nor brackets.
func TestSingles(t *testing.T) {
	check(t, "0", nil, number(t, "0"))
	check(t, " 007 ", nil, number(t, "7"))
	check(t, "2.50", nil, number(t, "2.5"))
	check(t, strings.Repeat("0", 300), nil, number(t, "0"))
	check(t, "0."+strings.Repeat("0", 70)+"1", nil, number(t, "0."+strings.Repeat("0", 70)+"1"))
	check(t, `""`, nil, text(""))
	check(t, `"a""b"`, nil, text(`a"b`))
	check(t, `"+"`, nil, text("+"))
	check(t, `"("&")"`, nil, text("("), text(")"), binary(api.OpJoin, 0, 1))
	check(t, "TRUE", nil, api.Node{Kind: api.NdTruth, Truth: true})
	check(t, "FALSE", nil, api.Node{Kind: api.NdTruth})
	for n, name := range []string{1: "#DIV/0!", 2: "#VALUE!", 3: "#REF!", 4: "#NAME?", 5: "#NUM!", 6: "#N/A", 7: "#CIRC!"} {
		if n > 0 {
			check(t, name, nil, fault(n))
		}
	}
	for _, s := range []string{"A1", "$A1", "A$1", "$A$1", "AZ99", "Sheet_1!B2", "abcdefghijkl!$C$3", "SUM!A1", "TRUE1!A1"} {
		check(t, s, nil, cell(t, s))
		check(t, "  "+strings.ReplaceAll(s, "!", " ! ")+" ", nil, cell(t, s))
	}
	check(t, "NOW()", nil, call("NOW", 0, 0))
	check(t, "TRUE()", nil, call("TRUE", 0, 0))
	check(t, "FALSE ( 1 )", []int{0}, number(t, "1"), call("FALSE", 0, 1))
	check(t, "A1(2)", []int{0}, number(t, "2"), call("A1", 0, 1))
	check(t, "BA100()", nil, call("BA100", 0, 0))
	check(t, "ABCDEFGHIJKL()", nil, call("ABCDEFGHIJKL", 0, 0))
}

// P14.2: areas, whose ends are put in order.
func TestAreas(t *testing.T) {
	for _, c := range []struct{ s, from, to string }{
		{"A1:A1", "A1", "A1"}, {"A1:B2", "A1", "B2"}, {"B2:A1", "A1", "B2"}, {"B1:A2", "A1", "B2"}, {"A2:B1", "A1", "B2"}, {" S ! B2 : A1 ", "S!A1", "B2"}, {"S!A1:B2", "S!A1", "B2"}, {"$B$2:A1", "A1", "$B$2"}, {"$B2:A$1", "A$1", "$B2"}, {"B$2:$A1", "$A1", "B$2"}, {"$B1:A$2", "A1", "$B$2"}, {"B$1:$A2", "$A$1", "B2"}, {"A$2:$B1", "A1", "$B$2"}, {"$A$2:B1", "$A1", "B$2"}, {"S!$B$2:A1", "S!A1", "$B$2"},
		{"$A1:A2", "$A1", "A2"}, {"A1:$A2", "A1", "$A2"}, {"A$1:B1", "A$1", "B1"}, {"B$1:A1", "A$1", "B1"}, {"$A2:A1", "$A1", "A2"}, {"A1:$A$1", "A1", "$A$1"}, {"$A$1:A1", "$A$1", "A1"}, {"A1:B99", "A1", "B99"}, {"AZ99:AG90", "AG90", "AZ99"}, {"A1:T10", "A1", "T10"}, {"AY1:AZ99", "AY1", "AZ99"},
	} {
		check(t, c.s, nil, area(t, c.from, c.to))
	}
	check(t, "SUM(B2:A1,S!A1)", []int{0, 1}, area(t, "A1", "B2"), cell(t, "S!A1"), call("SUM", 0, 2))
	check(t, "A1:B2%", nil, area(t, "A1", "B2"), unary(api.OpPercent, 0))
}

// P14.2: operators, the chapter's example first.
func TestOperators(t *testing.T) {
	x := []api.Node{number(t, "0"), number(t, "1"), number(t, "2"), number(t, "3")}
	check(t, "1+2*3", nil, x[1], x[2], x[3], binary(api.OpMul, 1, 2), binary(api.OpAdd, 0, 3))
	check(t, "(1+2)*3", nil, x[1], x[2], binary(api.OpAdd, 0, 1), x[3], binary(api.OpMul, 2, 3))
	check(t, "((1))", nil, x[1])
	check(t, "1-2-3", nil, x[1], x[2], binary(api.OpSub, 0, 1), x[3], binary(api.OpSub, 2, 3))
	check(t, "1-(2-3)", nil, x[1], x[2], x[3], binary(api.OpSub, 1, 2), binary(api.OpSub, 0, 3))
	check(t, "1^2^3", nil, x[1], x[2], binary(api.OpPow, 0, 1), x[3], binary(api.OpPow, 2, 3))
	check(t, "-1^2", nil, x[1], unary(api.OpNeg, 0), x[2], binary(api.OpPow, 1, 2))
	check(t, "1^-2", nil, x[1], x[2], unary(api.OpNeg, 1), binary(api.OpPow, 0, 2))
	check(t, "--1", nil, x[1], unary(api.OpNeg, 0), unary(api.OpNeg, 1))
	check(t, "1--2", nil, x[1], x[2], unary(api.OpNeg, 1), binary(api.OpSub, 0, 2))
	check(t, "-1%", nil, x[1], unary(api.OpPercent, 0), unary(api.OpNeg, 1))
	check(t, "(-1)%", nil, x[1], unary(api.OpNeg, 0), unary(api.OpPercent, 1))
	check(t, "1%%", nil, x[1], unary(api.OpPercent, 0), unary(api.OpPercent, 1))
	check(t, "1%^2%", nil, x[1], unary(api.OpPercent, 0), x[2], unary(api.OpPercent, 2), binary(api.OpPow, 1, 3))
	check(t, "1=2<>3", nil, x[1], x[2], binary(api.OpEq, 0, 1), x[3], binary(api.OpNe, 2, 3))
	check(t, "1&2=3", nil, x[1], x[2], binary(api.OpJoin, 0, 1), x[3], binary(api.OpEq, 2, 3))
	check(t, "-(1+2)", nil, x[1], x[2], binary(api.OpAdd, 0, 1), unary(api.OpNeg, 2))
	for op := api.OpAdd; op <= api.OpGe; op++ {
		check(t, "1"+sign[op]+"2", nil, x[1], x[2], binary(op, 0, 1))
		check(t, " ( 1 "+sign[op]+" 2 ) ", nil, x[1], x[2], binary(op, 0, 1))
		for other := api.OpAdd; other <= api.OpGe; other++ {
			if ast.Level(binary(op, 0, 0)) < ast.Level(binary(other, 0, 0)) {
				check(t, "1"+sign[op]+"2"+sign[other]+"3", nil, x[1], x[2], x[3], binary(other, 1, 2), binary(op, 0, 3))
			} else {
				check(t, "1"+sign[op]+"2"+sign[other]+"3", nil, x[1], x[2], binary(op, 0, 1), x[3], binary(other, 2, 3))
			}
		}
	}
}

// P14.2: calls, and where their arguments stand in Args.
func TestCalls(t *testing.T) {
	x := []api.Node{number(t, "0"), number(t, "1"), number(t, "2"), number(t, "3")}
	check(t, "F(1)", []int{0}, x[1], call("F", 0, 1))
	check(t, "F(1,2)", []int{0, 1}, x[1], x[2], call("F", 0, 2))
	check(t, "F( 1 , 2 )", []int{0, 1}, x[1], x[2], call("F", 0, 2))
	check(t, "F(1+2,-3)", []int{2, 4}, x[1], x[2], binary(api.OpAdd, 0, 1), x[3], unary(api.OpNeg, 3), call("F", 0, 2))
	check(t, "F(G(1),2)", []int{0, 1, 2}, x[1], call("G", 0, 1), x[2], call("F", 1, 2))
	check(t, "F(1,G(2,H()))", []int{1, 2, 0, 3}, x[1], x[2], call("H", 0, 0), call("G", 0, 2), call("F", 2, 2))
	check(t, "F(1)+G(2)", []int{0, 2}, x[1], call("F", 0, 1), x[2], call("G", 1, 1), binary(api.OpAdd, 1, 3))
	check(t, "F((1))%", []int{0}, x[1], call("F", 0, 1), unary(api.OpPercent, 1))
	check(t, "F(1,H(),2)", []int{0, 1, 2}, x[1], call("H", 0, 0), x[2], call("F", 0, 3))
}

// refused tells whether a text is refused at a place.
func refused(t *testing.T, s string, place int, want api.Errno) {
	t.Helper()
	f, at, e := parse.Formula(s)
	if len(f.Nodes) != 0 || len(f.Args) != 0 || at != place || e != want {
		t.Errorf("Formula of %.60q: %+v %d %d, want %d %d", s, f, at, e, place, want)
	}
}

// P14.2: lex.All's place and error, ahead of all others.
func TestRefusedByLex(t *testing.T) {
	for _, s := range []string{"@", "1 2 @", ")) \"", "1+.5", "1.", "#N/B", "+\"\x01\"", "1 2 " + strings.Repeat("9", 100), strings.Repeat("9", 250), "A100 @", strings.Repeat("(", 30) + "@", "F(" + strings.Repeat("1,", 30) + "@", "É", "\xff", "A1:AZ99 ?"} {
		_, place, e := lex.All(s)
		refused(t, s, place, e)
	}
	for _, s := range []string{strings.Repeat("1", 301), strings.Repeat(" ", 301), strings.Repeat("(", 301), strings.Repeat("@", 301), strings.Repeat("1+", 1_000_000)} {
		refused(t, s, 0, api.ErrLong)
	}
	refused(t, strings.Repeat(" ", 300), 300, api.ErrText)
}

// P14.2: ErrText, where another token must stand.
func TestRefusedTokens(t *testing.T) {
	for s, place := range map[string]int{
		"": 0, " ": 1, "   ": 3, "+": 0, "+1": 0, "*": 0, "%": 0, "%1": 0, "=1": 0, "<>": 0, ")": 0, ",": 0, ":": 0, "!": 0, ":A1": 0, "!A1": 0,
		"-": 1, "--": 2, "1+": 2, "1+ ": 3, "1++2": 2, "1+*2": 2, "1 2": 2, "1 A1": 2, "A1 B1": 3, "A1 1": 3, "1A": 1, "1\"a\"": 1, "\"a\" \"b\"": 4, "#N/A#N/A": 4, "1(": 1, "1(2)": 1, "1!": 1, "1:2": 1, "1:A1": 1, "TRUE 1": 5, "TRUE FALSE": 5, "TRUE:A1": 4, "TRUE%1": 5,
		"(": 1, "()": 1, "(1": 2, "(1 ": 3, "(1 2": 3, "(1,2)": 2, "(1)2": 3, "(1))": 3, "1)": 1, "1,2": 1, "(1)(2)": 3, "((1)": 4, "(1:2)": 2, "(A1):B2": 4, "(-)": 2, "(1+)": 3,
		"A1:": 3, "A1: ": 4, "A1:1": 3, "A1:(B2)": 3, "A1:\"B2\"": 3, "A1::B2": 3, "A1:+B2": 3, "A1:B2:C3": 5, "A1:B2!C3": 5, "A1:B2(": 5, "A1:B2 C3": 6, "A1:#REF!": 3, "S!": 2, "S! ": 3, "S!1": 2, "S!(A1)": 2, "S!#REF!": 2, "S!!A1": 2, "S!A1!B1": 4, "S!A1(": 4, "S!A1:": 5, "S!\"A1\"": 2,
		"F(": 2, "F( ": 3, "F(1": 3, "F(1,": 4, "F(1,)": 4, "F(,": 2, "F(,1)": 2, "F(1,,2)": 4, "F(1 2)": 4, "F(1))": 4, "F()(": 3, "F()1": 3, "F(1)2": 4, "F(()": 3, "F(1:2)": 3, "F((1,2))": 4, "F(1,2": 5, "F(1+)": 4, "F()()": 3, "F():A1": 3, "F()!A1": 3,
		"-+1": 1, "-*1": 1, "-%": 1, "-)": 1, "1%2": 2, "1%%A1": 3, "1%(": 2, "1<=>2": 3, "1<>=2": 3, "1==2": 2, "1> =2": 3, "1^*2": 2, "1^%": 2, "1&": 2, "\"a\"&": 4,
	} {
		refused(t, s, place, api.ErrText)
	}
}

// P14.2: words that are no reference, no sheet's name, no function's name.
func TestRefusedWords(t *testing.T) {
	for s, place := range map[string]int{
		"A": 0, "a1": 0, "SUM": 0, "foo": 0, "_": 0, "$": 0, "A0": 0, "A01": 0, "A1000": 0, "AAA1": 0, "$A": 0, "A$": 0, "true": 0, "True": 0, "TRUE1": 0, " x ": 1, "1+x": 2, "x+": 0, "foo bar": 0, "SUM:A1": 0, "A1:SUM": 3, "A1:x": 3, "A1:TRUE": 3, "A1:S!B2": 3, "A1:SUM(1)": 3, "A1:$B": 3, "(x": 1, "F(x": 2, "F(1,x)": 4, "-x": 1, "x:y": 0, "A1+x*y": 3, "F(1)+x": 5, "A1B2": 0,
		"A1!B2": 0, "a1!B2": 0, "A0!B2": 0, "TRUE!A1": 0, "FALSE!A1": 0, "false!A1": 0, "$A!B1": 0, "_S!A1": 0, "abcdefghijklm!A1": 0, "1+A1!B2": 2, "A1!": 0, "A1!x": 0, "$A$1!B1:B2": 0, "A100!B1": 0, "TRUE ! A1": 0,
		"S!x": 2, "S!A": 2, "S!SUM(1)": 2, "S!TRUE": 2, "S!a1": 2, "S!A0": 2, "S!A1000": 2, "S!S!A1": 2, "S!$": 2, "S!A1:x": 5, "S!A1:S!B2": 5, "1+ S ! x": 7, "S!x:A1": 2, "S!FALSE:": 2,
		"foo(": 0, "Sum(1)": 0, "sum(": 0, "_A()": 0, "$A(": 0, "$A$1(2)": 0, "A_1()": 0, "ABCDEFGHIJKLM()": 0, "1+f(1)": 2, "F(g(1))": 2, "true()": 0, "A$1(": 0, "f ( 1 )": 0, "F(1,g()": 4,
	} {
		refused(t, s, place, api.ErrText)
	}
	for s, place := range map[string]int{
		"A100": 0, "BA1": 0, "ZZ999": 0, "$BA$1": 0, "A$100": 0, "1+A100": 2, "A100+x": 0, "A100:B2": 0, "A1:A100": 3, "A1:BA1": 3, "S!A100": 2, "S ! BA1": 4, "S!A1:A100": 5, "S!A100:x": 2, "F(A100": 2, "(BA1": 1, "BA1 1": 0, "A100)": 0, "A100:": 0, "-A100": 1, "F(1,BA1,": 4, "A1:A100(": 3, "A1:A100!B1": 3,
	} {
		refused(t, s, place, api.ErrAddr)
	}
}

// P14.2: ErrArea at the second reference.
func TestRefusedAreas(t *testing.T) {
	for s, place := range map[string]int{"A1:C67": 3, "C67:A1": 4, "A67:C1": 4, "A1:AZ4": 3, "A1:AZ99": 3, "S!A1:AZ99": 5, "SUM(A1:AZ99": 7, "1+ $A$1 : $C$67": 10, "A1:AZ99:B2": 3, "A1:AZ99!B2": 3, "A1:AZ99(": 3, "A1:U10": 3, "A1:C67 x": 3} {
		refused(t, s, place, api.ErrArea)
	}
}

// P14.2: ErrArg at the token behind the comma that is one too many.
func TestRefusedArguments(t *testing.T) {
	ahead := "F(" + strings.Repeat("1,", 20)
	for _, behind := range []string{"1)", "1", ")", "", ",", "x", "+", "(", "A100", "f(1)", "A1!B2", "A1:AZ99)", "1,1,1)", "-1", "!", ":", "%"} {
		refused(t, ahead+behind, len(ahead), api.ErrArg)
		refused(t, "1+"+ahead+"  "+behind, len(ahead)+4, api.ErrArg)
		refused(t, "G(1,"+ahead+behind, len(ahead)+4, api.ErrArg)
	}
	deep := strings.Repeat("-", 23) + ahead
	for _, behind := range []string{"-1", "(1)", "G()"} {
		refused(t, deep+behind, len(deep), api.ErrArg)
	}
	for n := range 21 {
		s := "F(" + strings.Join(slices.Repeat([]string{"1"}, n), ",") + ")"
		if f, at, e := parse.Formula(s); len(f.Args) != n || len(f.Nodes) != n+1 || at != 0 || e != api.OK {
			t.Errorf("%d arguments: %d %d", n, at, e)
		}
		if f, _, e := parse.Formula("G(" + s + "," + s + ")"); len(f.Args) != 2*n+2 || e != api.OK {
			t.Errorf("%d arguments, twice: %d", n, e)
		}
	}
	refused(t, ahead[:len(ahead)-1], len(ahead)-1, api.ErrText)
	refused(t, "F("+strings.Repeat("1,", 19)+")", 40, api.ErrText)
	refused(t, "F("+strings.Repeat("1,", 19)+"x,1,", 40, api.ErrText)
}

// P14.2: ErrDeep at what would be the 25th one within each other.
func TestRefusedDepth(t *testing.T) {
	for _, c := range []struct {
		ahead, end string
		within     int
	}{{"(", ")", 0}, {"-", "", 0}, {"F(", ")", 0}, {"FN ( ", ")", 0}, {" - ", "", 1}, {"G(1,", ")", 0}, {"1+(", ")", 2}, {"1&F(2+", ")", 2}, {"1% ^ ( ", " )", 5}, {"(1+", "^2)", 0}} {
		deep := func(n int) string { return strings.Repeat(c.ahead, n) + "1" + strings.Repeat(c.end, n) }
		if f, at, e := parse.Formula(deep(24)); at != 0 || e != api.OK || !ast.Right(f) {
			t.Errorf("Formula of %q: %d %d", deep(24), at, e)
		}
		place := 24*len(c.ahead) + c.within
		for _, n := range []int{25, 26, 29} {
			refused(t, deep(n), place, api.ErrDeep)
			refused(t, "1+"+deep(n), place+2, api.ErrDeep)
		}
		refused(t, "("+deep(24), 1+place-len(c.ahead), api.ErrDeep)
		refused(t, deep(25)[:25*len(c.ahead)], place, api.ErrDeep)
		refused(t, deep(24)[:24*len(c.ahead)], 24*len(c.ahead), api.ErrText)
	}
	// A minus ends where its operand does: these stand beside each other.
	for _, ahead := range []string{"1--", "2^-", "-1%*", "(-1)+", "-F(-1)&", "-(1)="} {
		s := strings.Repeat(ahead, 30) + "1"
		if f, at, e := parse.Formula(s); at != 0 || e != api.OK || !ast.Right(f) {
			t.Errorf("Formula of %q: %d %d", s, at, e)
		}
	}
	ahead := strings.Repeat("-", 24)
	refused(t, ahead+"(1)", 24, api.ErrDeep)
	refused(t, ahead+"F(1)", 24, api.ErrDeep)
	refused(t, ahead+"f(1)", 24, api.ErrText)
	refused(t, ahead+"A100", 24, api.ErrAddr)
	refused(t, ahead+")", 24, api.ErrText)
	refused(t, ahead+"1+"+ahead+"-1", 50, api.ErrDeep)
	check(t, strings.Repeat("(", 24)+"1"+strings.Repeat(")", 24), nil, number(t, "1"))
	for _, s := range []string{ahead + "1%+" + ahead + "1", strings.Repeat("-(", 12) + "1" + strings.Repeat(")", 12), strings.Repeat("(-", 12) + "1" + strings.Repeat(")%", 12), strings.Repeat("F(-(", 8) + "1" + strings.Repeat("))", 8), "F(" + ahead[1:] + "1,((1)),G(2),-3)", ahead + "TRUE", ahead + "A1:B2", ahead + "S!A1%%"} {
		if f, at, e := parse.Formula(s); at != 0 || e != api.OK || !ast.Right(f) {
			t.Errorf("Formula of %q: %d %d", s, at, e)
		}
	}
}

// P14.2, P14.3: as many nodes as a formula's text can have.
func TestMostNodes(t *testing.T) {
	for _, s := range []string{"1" + strings.Repeat("%", 299), strings.Repeat("1+", 149) + "1%", "-" + strings.Repeat("1^", 149) + "1"} {
		if f, at, e := parse.Formula(s); len(f.Nodes) != 300 || at != 0 || e != api.OK || !ast.Right(f) {
			t.Errorf("Formula of %.10q: %d nodes, %d %d", s, len(f.Nodes), at, e)
		}
	}
}

// Rule 4: what is written into an answer is seen by no later one.
func TestFormulaIsNew(t *testing.T) {
	for range 3 {
		f, _, _ := parse.Formula("F(1,A1)+2")
		check(t, "F(1,A1)+2", []int{0, 1}, number(t, "1"), cell(t, "A1"), call("F", 0, 2), number(t, "2"), binary(api.OpAdd, 2, 3))
		clear(f.Nodes)
		clear(f.Args)
	}
}
