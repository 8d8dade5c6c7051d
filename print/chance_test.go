package print_test

import (
	"math/big"
	"math/rand"
	"slices"
	"strconv"
	"strings"
	"testing"

	"abacist/api"
	"abacist/ast"
	"abacist/parse"
	"abacist/print"
)

// tree is a formula told in another way: a node, and what it is made of.
type tree struct {
	n    api.Node
	kids []tree
}

// lay puts a tree's nodes behind f's, and tells which one is the last.
func lay(t tree, f *api.Formula) int {
	var tops []int
	for _, kid := range t.kids {
		tops = append(tops, lay(kid, f))
	}
	n := t.n
	switch {
	case n.Kind == api.NdCall:
		n.B = len(tops)
		if n.B > 0 {
			n.A = len(f.Args)
		}
		f.Args = append(f.Args, tops...)
	case len(tops) == 2:
		n.A, n.B = tops[0], tops[1]
	case len(tops) == 1:
		n.A = tops[0]
	}
	f.Nodes = append(f.Nodes, n)
	return len(f.Nodes) - 1
}

// operators are texts of the operators between two kids, each at its number, and how tight each one holds.
var operators = []struct {
	text  string
	tight int
}{{}, {"+", 3}, {"-", 3}, {"*", 4}, {"/", 4}, {"^", 5}, {"&", 2}, {"=", 1}, {"<>", 1}, {"<", 1}, {"<=", 1}, {">", 1}, {">=", 1}}

// tight is how tight a node holds.
func tight(n api.Node) int {
	switch {
	case n.Kind == api.NdBinary:
		return operators[n.Op].tight
	case n.Kind == api.NdUnary && n.Op == api.OpNeg:
		return 6
	case n.Kind == api.NdUnary:
		return 7
	}
	return 8
}

// kid is the text of a tree's kid of that number, in brackets where it must be.
func (t tree) kid(i int) string {
	s := t.kids[i].text()
	own, its := tight(t.n), tight(t.kids[i].n)
	if its < own || its == own && i == 1 {
		return "(" + s + ")"
	}
	return s
}

// address is a reference's text.
func address(r api.Ref) string {
	s := ""
	if r.Sheet != "" {
		s = r.Sheet + "!"
	}
	if r.FixCol {
		s += "$"
	}
	if r.Col > 26 {
		s += "A"
	}
	s += string(rune('A' + (r.Col-1)%26))
	if r.FixRow {
		s += "$"
	}
	return s + strconv.Itoa(r.Row)
}

// digits is a number that ends behind less than 300 places.
func digits(r api.Rat) string {
	n, d := new(big.Int).SetBytes([]byte(r.Num)), new(big.Int).SetBytes([]byte(r.Den))
	s := new(big.Rat).SetFrac(n, d).FloatString(300)
	return strings.TrimRight(strings.TrimRight(s, "0"), ".")
}

// text is what Formula is to tell of a tree, but for the limit, found in another way.
func (t tree) text() string {
	switch t.n.Kind {
	case api.NdNumber:
		return digits(t.n.Num)
	case api.NdText:
		return `"` + strings.Join(strings.Split(t.n.Text, `"`), `""`) + `"`
	case api.NdTruth:
		return strings.ToUpper(strconv.FormatBool(t.n.Truth))
	case api.NdFault:
		return strings.Fields("#DIV/0! #VALUE! #REF! #NAME? #NUM! #N/A #CIRC!")[t.n.Op-1]
	case api.NdCell:
		return address(t.n.Ref)
	case api.NdArea:
		return address(t.n.Ref) + ":" + address(t.n.To)
	case api.NdUnary:
		if t.n.Op == api.OpNeg {
			return "-" + t.kid(0)
		}
		return t.kid(0) + "%"
	case api.NdBinary:
		return t.kid(0) + operators[t.n.Op].text + t.kid(1)
	}
	s := t.n.Text + "("
	for i, kid := range t.kids {
		if i > 0 {
			s += ","
		}
		s += kid.text()
	}
	return s + ")"
}

// chance makes trees by chance.
type chance struct{ *rand.Rand }

// place is a reference.
func (c chance) place(sheets ...string) api.Ref {
	return api.Ref{Sheet: sheets[c.Intn(len(sheets))], Col: 1 + c.Intn(52), Row: 1 + c.Intn(99), FixCol: c.Intn(3) == 0, FixRow: c.Intn(3) == 0}
}

// words is a text of bytes that texts are made of, quotes often among them.
func (c chance) words() string {
	b := make([]byte, c.Intn(8))
	if c.Intn(50) == 0 {
		b = make([]byte, c.Intn(201))
	}
	for i := range b {
		b[i] = `" a0~(,%+`[c.Intn(9)]
	}
	return string(b)
}

// number is a number that ends.
func (c chance) number() api.Rat {
	n, d := big.NewInt(int64(c.Intn(200))), big.NewInt(1)
	for range c.Intn(4) {
		d.Mul(d, big.NewInt([]int64{2, 5, 10}[c.Intn(3)]))
	}
	if c.Intn(20) == 0 {
		d.Exp(d, big.NewInt(int64(c.Intn(30))), nil)
	}
	r := new(big.Rat).SetFrac(n, d)
	return api.Rat{Num: string(r.Num().Bytes()), Den: string(r.Denom().Bytes())}
}

// leaf is a tree without kids.
func (c chance) leaf() tree {
	switch c.Intn(7) {
	case 0:
		return tree{n: api.Node{Kind: api.NdText, Text: c.words()}}
	case 1:
		return tree{n: api.Node{Kind: api.NdTruth, Truth: c.Intn(2) == 0}}
	case 2:
		return tree{n: api.Node{Kind: api.NdFault, Op: 1 + c.Intn(7)}}
	case 3:
		return tree{n: api.Node{Kind: api.NdCell, Ref: c.place("", "", "S", "Sheet_1", "SUM")}}
	case 4:
		r := c.place("", "", "S", "FALSE_")
		to := c.place("")
		to.Col, to.Row = min(52, r.Col+c.Intn(4)), min(99, r.Row+c.Intn(50))
		return tree{n: api.Node{Kind: api.NdArea, Ref: r, To: to}}
	}
	return tree{n: api.Node{Kind: api.NdNumber, Num: c.number()}}
}

// tree is one of so many leaves, or about so many, and what is around them.
func (c chance) tree(size int) tree {
	switch k := c.Intn(10); {
	case size <= 1 && k < 7:
		return c.leaf()
	case k == 0, size <= 1:
		return tree{api.Node{Kind: api.NdUnary, Op: api.OpNeg + c.Intn(2)}, []tree{c.tree(size)}}
	case k <= 2:
		t := tree{n: api.Node{Kind: api.NdCall, Text: []string{"F", "SUM", "A1", "TRUE", "ABCDEFGHIJ12"}[c.Intn(5)]}}
		for left := size; left > 0 && c.Intn(8) > 0; {
			part := 1 + c.Intn(left)
			left -= part
			t.kids = append(t.kids, c.tree(part))
		}
		return t
	}
	part := 1 + c.Intn(size-1)
	return tree{api.Node{Kind: api.NdBinary, Op: 1 + c.Intn(12)}, []tree{c.tree(part), c.tree(size - part)}}
}

// P15.1, P15.2, P15.3: formulas by chance.
func TestByChance(t *testing.T) {
	c := chance{rand.New(rand.NewSource(15))}
	told := map[api.Errno]int{}
	for range 30_000 {
		x := c.tree(1 + c.Intn(30))
		var f api.Formula
		lay(x, &f)
		before := api.Formula{Nodes: slices.Clone(f.Nodes), Args: slices.Clone(f.Args)}
		want, wantErr := x.text(), api.OK
		switch {
		case !ast.Right(f):
			want, wantErr = "", api.ErrForm
		case len(want) > 300:
			want, wantErr = "", api.ErrLong
		}
		got, e := print.Formula(f)
		if got != want || e != wantErr || !ast.Same(f, before) {
			t.Fatalf("Formula of %+v: %q %d, want %q %d", f, got, e, want, wantErr)
		}
		told[e]++
		if e != api.OK {
			continue
		}
		back, at, e := parse.Formula(got)
		if !ast.Same(back, f) || at != 0 || e != api.OK {
			t.Fatalf("%q is parsed to %+v %d %d, not to %+v", got, back, at, e, f)
		}
	}
	if told[api.OK] < 10_000 || told[api.ErrLong] < 100 {
		t.Errorf("told: %v", told)
	}
}

// P15.3: what is parsed of texts with brackets and blanks too many by chance is told as a text that is not longer, and parsed to the same.
func TestParsedByChance(t *testing.T) {
	c := chance{rand.New(rand.NewSource(3))}
	pieces := []string{"(", ")", " ", "-", "%", "(1)", "$", "+", "0", ".5", ",", "((", "))"}
	told := map[api.Errno]int{}
	for range 60_000 {
		s := c.tree(1 + c.Intn(6)).text()
		for range c.Intn(4) {
			at := c.Intn(len(s) + 1)
			s = s[:at] + pieces[c.Intn(len(pieces))] + s[at:]
		}
		f, _, e := parse.Formula(s)
		told[e]++
		if e != api.OK {
			continue
		}
		got, e := print.Formula(f)
		back, at, backErr := parse.Formula(got)
		if e != api.OK || len(got) > len(s) || !ast.Same(back, f) || at != 0 || backErr != api.OK {
			t.Fatalf("%q is told as %q %d, that is parsed to %+v %d %d", s, got, e, back, at, backErr)
		}
		if again, _ := print.Formula(back); again != got {
			t.Fatalf("%q, and told again %q", got, again)
		}
	}
	if told[api.OK] < 10_000 {
		t.Errorf("told: %v", told)
	}
}
