package ast_test

import (
	"math"
	"math/big"
	"math/rand"
	"slices"
	"strings"
	"testing"

	"abacist/api"
	"abacist/ast"
	"abacist/rat"
)

// tree is a formula told in another way: a node, and what it is made of.
type tree struct {
	n    api.Node
	kids []tree
}

// flat is a tree as a formula.
func flat(t tree) api.Formula {
	var f api.Formula
	lay(t, &f)
	return f
}

// lay puts a tree's nodes behind f's, and tells which one is the last.
func lay(t tree, f *api.Formula) int {
	var tops []int
	for _, kid := range t.kids {
		tops = append(tops, lay(kid, f))
	}
	n := t.n
	switch {
	case n.Kind == api.NdCall:
		n.B = len(tops)
		if n.B > 0 {
			n.A = len(f.Args)
		}
		f.Args = append(f.Args, tops...)
	case len(tops) == 2:
		n.A, n.B = tops[0], tops[1]
	case len(tops) == 1:
		n.A = tops[0]
	}
	f.Nodes = append(f.Nodes, n)
	return len(f.Nodes) - 1
}

// tight is the operators in the order of how tight they hold.
var tight = [][]int{{}, {api.OpEq, api.OpNe, api.OpLt, api.OpLe, api.OpGt, api.OpGe}, {api.OpJoin}, {api.OpAdd, api.OpSub}, {api.OpMul, api.OpDiv}, {api.OpPow}, {api.OpNeg}, {api.OpPercent}}

// levelOf is what Level tells, found in another way.
func levelOf(n api.Node) int {
	for level, ops := range tight {
		if slices.Contains(ops, n.Op) && n.Kind == map[bool]int{true: api.NdBinary, false: api.NdUnary}[level < 6] {
			return level
		}
	}
	return 8
}

// nestOf is what Nest tells, found in another way.
func nestOf(t tree) int {
	most := 0
	for i, kid := range t.kids {
		d := nestOf(kid)
		own, its := levelOf(t.n), levelOf(kid.n)
		if t.n.Kind != api.NdCall && (its < own || its == own && i == 1) {
			d++
		}
		most = max(most, d)
	}
	if t.n.Kind == api.NdCall || t.n.Op == api.OpNeg {
		most++
	}
	return most
}

// number is n by d as a leaf.
func number(n, d int64) api.Node {
	r, _ := rat.Div(rat.Of(n), rat.Of(d))
	return api.Node{Kind: api.NdNumber, Num: r}
}

func leaf(n int64) tree { return tree{n: number(n, 1)} }

func one(op int, t tree) tree { return tree{api.Node{Kind: api.NdUnary, Op: op}, []tree{t}} }

func two(op int, t, u tree) tree { return tree{api.Node{Kind: api.NdBinary, Op: op}, []tree{t, u}} }

func call(name string, l ...tree) tree { return tree{api.Node{Kind: api.NdCall, Text: name}, l} }

// some is n trees, each a leaf.
func some(n int) []tree {
	var l []tree
	for i := range n {
		l = append(l, leaf(int64(i)))
	}
	return l
}

// many is n times an operation around t.
func many(n int, around func(t tree) tree, t tree) tree {
	for range n {
		t = around(t)
	}
	return t
}

func negated(t tree) tree { return one(api.OpNeg, t) }

func hundredth(t tree) tree { return one(api.OpPercent, t) }

func called(t tree) tree { return call("F", t) }

// added is t as the second operand: in brackets, if it is a sum.
func added(t tree) tree { return two(api.OpAdd, leaf(1), t) }

func more(t tree) tree { return two(api.OpAdd, t, leaf(1)) }

func place(col, row int) api.Ref { return api.Ref{Col: col, Row: row} }

func cell(r api.Ref) api.Node { return api.Node{Kind: api.NdCell, Ref: r} }

func area(from, to api.Ref) api.Node { return api.Node{Kind: api.NdArea, Ref: from, To: to} }

// power is 2^n.
func power(n uint) string { return string(new(big.Int).Lsh(big.NewInt(1), n).Bytes()) }

// great is 2^256 - 1.
var great = strings.Repeat("\xff", 32)

// leaves are nodes that can be, and are made of no others.
var leaves = []api.Node{
	number(0, 1), number(1, 1), number(5, 2), number(1, 8), number(7, 625), number(3, 1000), {Kind: api.NdNumber, Num: api.Rat{Num: great, Den: "\x01"}}, {Kind: api.NdNumber, Num: api.Rat{Num: great, Den: power(255)}},
	{Kind: api.NdText}, {Kind: api.NdText, Text: " a~\"1"}, {Kind: api.NdText, Text: strings.Repeat("x", 200)},
	{Kind: api.NdTruth}, {Kind: api.NdTruth, Truth: true},
	{Kind: api.NdFault, Op: 1}, {Kind: api.NdFault, Op: 4}, {Kind: api.NdFault, Op: 7},
	cell(place(1, 1)), cell(place(52, 99)), cell(api.Ref{Sheet: "Sheet_1", Col: 3, Row: 4, FixCol: true, FixRow: true}),
	area(place(1, 1), place(1, 1)), area(place(1, 1), place(2, 99)), area(place(1, 99), place(52, 99)), area(api.Ref{Sheet: "T", Col: 3, Row: 4, FixRow: true}, api.Ref{Col: 4, Row: 4, FixCol: true}), area(place(1, 1), place(20, 10)), area(place(33, 90), place(52, 99)),
}

// wrongLeaves can not be.
var wrongLeaves = []api.Node{
	{}, {Kind: -1}, {Kind: 10}, {Kind: math.MaxInt}, {Kind: math.MinInt},
	{Kind: api.NdNumber}, number(1, 3), number(1, 7), number(5, 6), number(-1, 1), number(-1, 2), {Kind: api.NdNumber, Num: api.Rat{Num: "\x02", Den: "\x02"}}, {Kind: api.NdNumber, Num: api.Rat{Num: "\x00\x01", Den: "\x01"}}, {Kind: api.NdNumber, Num: api.Rat{Neg: true, Den: "\x01"}}, {Kind: api.NdNumber, Num: api.Rat{Num: power(256), Den: "\x01"}}, {Kind: api.NdNumber, Num: api.Rat{Num: "\x01"}}, {Kind: api.NdNumber, Num: api.Rat{Num: strings.Repeat("\xff", 50_000), Den: "\x05"}},
	{Kind: api.NdText, Text: "a\n"}, {Kind: api.NdText, Text: "\x7f"}, {Kind: api.NdText, Text: "É"}, {Kind: api.NdText, Text: strings.Repeat("x", 201)},
	{Kind: api.NdFault}, {Kind: api.NdFault, Op: 8}, {Kind: api.NdFault, Op: -1}, {Kind: api.NdFault, Op: math.MaxInt},
	cell(api.Ref{}), cell(place(0, 1)), cell(place(1, 0)), cell(place(53, 1)), cell(place(1, 100)), cell(place(-1, 1)), cell(api.Ref{Sheet: "A1", Col: 1, Row: 1}), cell(api.Ref{Sheet: "abcdefghijklm", Col: 1, Row: 1}),
	area(place(2, 1), place(1, 1)), area(place(1, 2), place(1, 1)), area(place(2, 2), place(1, 1)), area(place(1, 1), place(3, 67)), area(place(1, 1), place(52, 4)), area(place(1, 1), place(1, 100)), area(place(1, 0), place(1, 1)), area(place(1, 1), place(53, 1)), area(place(1, 1), api.Ref{}), area(api.Ref{}, place(1, 1)), area(api.Ref{}, api.Ref{}), area(place(1, 1), api.Ref{Sheet: "S", Col: 2, Row: 2}), area(api.Ref{Sheet: "S", Col: 1, Row: 1}, api.Ref{Sheet: "S", Col: 2, Row: 2}), area(api.Ref{Sheet: "TRUE", Col: 1, Row: 1}, place(2, 2)), area(place(math.MinInt, 1), place(math.MaxInt, 1)),
}

// spoilers put something into a node that is to be zero of most kinds; named are the kinds whose it is.
var spoilers = []struct {
	what  string
	spoil func(n *api.Node)
	named []int
}{
	{"Op", func(n *api.Node) { n.Op++ }, []int{api.NdFault, api.NdUnary, api.NdBinary}},
	{"A", func(n *api.Node) { n.A++ }, []int{api.NdUnary, api.NdBinary, api.NdCall}},
	{"B", func(n *api.Node) { n.B++ }, []int{api.NdBinary, api.NdCall}},
	{"A below 0", func(n *api.Node) { n.A = -1 }, nil},
	{"B below 0", func(n *api.Node) { n.B = -1 }, nil},
	{"Num", func(n *api.Node) { n.Num.Num += "\x01" }, []int{api.NdNumber}},
	{"Num's Den", func(n *api.Node) { n.Num.Den += "\x01" }, []int{api.NdNumber}},
	{"Num's Neg", func(n *api.Node) { n.Num.Neg = !n.Num.Neg }, []int{api.NdNumber}},
	{"Num 0", func(n *api.Node) { n.Num = rat.Of(0) }, []int{api.NdNumber}},
	{"Text", func(n *api.Node) { n.Text += "A" }, []int{api.NdText, api.NdCall}},
	{"Truth", func(n *api.Node) { n.Truth = !n.Truth }, []int{api.NdTruth}},
	{"Ref", func(n *api.Node) { n.Ref.Col++ }, []int{api.NdCell, api.NdArea}},
	{"Ref's Row", func(n *api.Node) { n.Ref.Row++ }, []int{api.NdCell, api.NdArea}},
	{"Ref's Sheet", func(n *api.Node) { n.Ref.Sheet = "S" }, []int{api.NdCell, api.NdArea}},
	{"Ref's FixCol", func(n *api.Node) { n.Ref.FixCol = true }, []int{api.NdCell, api.NdArea}},
	{"Ref's FixRow", func(n *api.Node) { n.Ref.FixRow = true }, []int{api.NdCell, api.NdArea}},
	{"To", func(n *api.Node) { n.To.Col++ }, []int{api.NdArea}},
	{"To's Row", func(n *api.Node) { n.To.Row++ }, []int{api.NdArea}},
	{"To's Sheet", func(n *api.Node) { n.To.Sheet = "S" }, nil},
	{"To's FixCol", func(n *api.Node) { n.To.FixCol = true }, []int{api.NdArea}},
	{"To's FixRow", func(n *api.Node) { n.To.FixRow = true }, []int{api.NdArea}},
}

// tops are formulas whose last node is made of others, or is a call.
func tops() []api.Formula {
	return []api.Formula{flat(one(api.OpNeg, leaf(1))), flat(one(api.OpPercent, leaf(1))), flat(two(api.OpAdd, leaf(1), leaf(2))), flat(two(api.OpGe, leaf(1), leaf(2))), flat(call("F")), flat(call("F", leaf(1))), flat(call("SUM", leaf(1), leaf(2)))}
}

// alone is a node as a formula.
func alone(n api.Node) api.Formula { return api.Formula{Nodes: []api.Node{n}} }

// copied is f in memory of its own.
func copied(f api.Formula) api.Formula {
	return api.Formula{Nodes: slices.Clone(f.Nodes), Args: slices.Clone(f.Args)}
}

// isNone tells whether an answer is an error, and nothing beside it.
func isNone(f api.Formula, e, want api.Errno) bool {
	return len(f.Nodes) == 0 && len(f.Args) == 0 && e == want
}

// P13.1, P13.2: leaves that can be, and that can not: Right and Leaf.
func TestLeaves(t *testing.T) {
	for _, n := range leaves {
		f, e := ast.Leaf(n)
		if !ast.Right(alone(n)) || e != api.OK || !ast.Same(f, alone(n)) || ast.Nest(f) != 0 || len(ast.Kids(f, 0)) != 0 {
			t.Errorf("of %+v: %v %+v %d", n, ast.Right(alone(n)), f, e)
		}
	}
	for _, n := range wrongLeaves {
		if f, e := ast.Leaf(n); ast.Right(alone(n)) || !isNone(f, e, api.ErrForm) {
			t.Errorf("of %+v: %v %+v %d", n, ast.Right(alone(n)), f, e)
		}
	}
	for _, f := range tops() {
		if g, e := ast.Leaf(f.Nodes[len(f.Nodes)-1]); !isNone(g, e, api.ErrForm) {
			t.Errorf("Leaf of %+v: %+v %d", f.Nodes[len(f.Nodes)-1], g, e)
		}
	}
}

// P13.1: what a node's Kind does not name is zero.
func TestRightOfWhatIsNotNamed(t *testing.T) {
	l := tops()
	for _, n := range leaves {
		l = append(l, alone(n))
	}
	for _, f := range l {
		if !ast.Right(f) {
			t.Fatalf("not right: %+v", f)
		}
		for _, s := range spoilers {
			g := copied(f)
			top := &g.Nodes[len(g.Nodes)-1]
			s.spoil(top)
			if slices.Contains(s.named, top.Kind) {
				continue
			}
			if ast.Right(g) || ast.Nest(g) != 0 || len(ast.Kids(g, len(g.Nodes)-1)) != 0 {
				t.Errorf("right with %s: %+v", s.what, g)
			}
			if h, e := ast.Leaf(*top); !isNone(h, e, api.ErrForm) {
				t.Errorf("Leaf with %s: %+v %d", s.what, h, e)
			}
		}
	}
}

// P13.1: operators, each of its kind.
func TestRightOfOperators(t *testing.T) {
	for _, op := range append([]int{math.MinInt, math.MaxInt, 15, 16, 100, -1}, 0, 1, 2, 3, 4, 5, 6, 7, 8, 9, 10, 11, 12, 13, 14) {
		unary, binary := op == 13 || op == 14, 1 <= op && op <= 12
		if got := ast.Right(flat(one(op, leaf(1)))); got != unary {
			t.Errorf("one of %d: %v", op, got)
		}
		if got := ast.Right(flat(two(op, leaf(1), leaf(2)))); got != binary {
			t.Errorf("two of %d: %v", op, got)
		}
		if f, e := ast.One(op, alone(leaves[0])); unary && e != api.OK || !unary && !isNone(f, e, api.ErrForm) {
			t.Errorf("One of %d: %+v %d", op, f, e)
		}
		if f, e := ast.Two(op, alone(leaves[0]), alone(leaves[1])); binary && e != api.OK || !binary && !isNone(f, e, api.ErrForm) {
			t.Errorf("Two of %d: %+v %d", op, f, e)
		}
	}
}

// P13.1, P13.2: functions' names.
func TestNames(t *testing.T) {
	for name, want := range map[string]bool{
		"A": true, "Z": true, "SUM": true, "A1": true, "ZZ999": true, "LOG10": true, "TRUE": true, "NOSUCHNAME12": true, "A00000000000": true, "Z9Z9": true,
		"": false, "1": false, "1A": false, "a": false, "Sum": false, "SUm": false, "SUM_": false, "_SUM": false, "S UM": false, " SUM": false, "SUM ": false, "S.M": false, "$A1": false, "A$1": false, "NOSUCHNAME123": false, strings.Repeat("A", 100_000): false, "É": false, "AÉ": false, "A\xff": false, "A\x00": false, "@": false, "[": false, "A@": false, "A[": false, "A/": false, "A:": false, "0": false,
	} {
		for _, args := range [][]tree{nil, some(1), some(3)} {
			if got := ast.Right(flat(call(name, args...))); got != want {
				t.Errorf("Right of %.20q with %d: %v", name, len(args), got)
			}
			var l []api.Formula
			for _, arg := range args {
				l = append(l, flat(arg))
			}
			f, e := ast.Call(name, l...)
			if want && (e != api.OK || !ast.Same(f, flat(call(name, args...)))) || !want && !isNone(f, e, api.ErrForm) {
				t.Errorf("Call of %.20q with %d: %+v %d", name, len(args), f, e)
			}
		}
	}
}

// P13.1: Level, by Kind and Op alone.
func TestLevel(t *testing.T) {
	for kind := -1; kind <= 11; kind++ {
		for op := -1; op <= 16; op++ {
			n := api.Node{Kind: kind, Op: op}
			want := levelOf(n)
			if got := ast.Level(n); got != want {
				t.Errorf("Level of kind %d and op %d: %d, want %d", kind, op, got, want)
			}
			n.A, n.B, n.Text, n.Truth, n.Num, n.Ref = -5, 1000, "x", true, rat.Of(3), place(7, 7)
			if got := ast.Level(n); got != want {
				t.Errorf("Level of %+v: %d, want %d", n, got, want)
			}
		}
	}
	for op, want := range map[int]int{api.OpEq: 1, api.OpGe: 1, api.OpJoin: 2, api.OpAdd: 3, api.OpSub: 3, api.OpMul: 4, api.OpDiv: 4, api.OpPow: 5} {
		if got := ast.Level(api.Node{Kind: api.NdBinary, Op: op}); got != want {
			t.Errorf("Level of %d: %d", op, got)
		}
	}
	if ast.Level(api.Node{Kind: api.NdUnary, Op: api.OpNeg}) != 6 || ast.Level(api.Node{Kind: api.NdUnary, Op: api.OpPercent}) != 7 || ast.Level(api.Node{Kind: math.MaxInt, Op: math.MinInt}) != 8 {
		t.Error("Level of others")
	}
}

// P13.1: Right of nodes that stand in another order than that of a way through them, the chapter's example first.
func TestRightOfOrder(t *testing.T) {
	x, y := number(1, 1), number(2, 1)
	plus := func(a, b int) api.Node { return api.Node{Kind: api.NdBinary, Op: api.OpAdd, A: a, B: b} }
	minus := func(a int) api.Node { return api.Node{Kind: api.NdUnary, Op: api.OpNeg, A: a} }
	fun := func(a, b int) api.Node { return api.Node{Kind: api.NdCall, Text: "F", A: a, B: b} }
	type nodes = []api.Node
	type ints = []int
	for i, c := range []struct {
		nodes []api.Node
		args  []int
		want  bool
	}{
		{nodes{x, y, plus(0, 1)}, nil, true}, {nodes{x, y, plus(1, 0)}, nil, false}, {nodes{x, y, plus(0, 0)}, nil, false}, {nodes{x, y, plus(1, 1)}, nil, false}, {nodes{x, plus(0, 0)}, nil, false}, {nodes{plus(1, 2), x, y}, nil, false}, {nodes{x, plus(0, 2), y}, nil, false}, {nodes{x, y, plus(0, 2)}, nil, false}, {nodes{x, y, plus(0, 3)}, nil, false}, {nodes{x, y, plus(-1, 1)}, nil, false}, {nodes{x, y, plus(0, math.MaxInt)}, nil, false}, {nodes{x, y, plus(math.MinInt, 1)}, nil, false},
		{nil, nil, false}, {nodes{}, ints{}, false}, {nil, ints{0}, false}, {nodes{x, y}, nil, false}, {nodes{x, y, minus(1)}, nil, false}, {nodes{x, y, minus(0)}, nil, false}, {nodes{minus(0)}, nil, false}, {nodes{minus(1), x}, nil, false}, {nodes{x, minus(0)}, nil, true}, {nodes{x, minus(1)}, nil, false}, {nodes{x, minus(0), minus(1)}, nil, true}, {nodes{x, minus(0), minus(0)}, nil, false}, {nodes{x, minus(-1)}, nil, false},
		{nodes{x, y, x, plus(1, 2), plus(0, 3)}, nil, true}, {nodes{x, y, plus(0, 1), x, plus(2, 3)}, nil, true}, {nodes{x, y, x, plus(0, 1), plus(3, 2)}, nil, false}, {nodes{x, y, x, plus(1, 2), plus(3, 0)}, nil, false}, {nodes{x, y, plus(0, 1), plus(0, 1)}, nil, false}, {nodes{x, y, x, plus(0, 1), plus(2, 3)}, nil, false},
		{nodes{x}, ints{}, true}, {nodes{x}, ints{0}, false}, {nodes{x, y, plus(0, 1)}, ints{0, 1}, false},
		{nodes{fun(0, 0)}, nil, true}, {nodes{fun(1, 0)}, nil, false}, {nodes{fun(-1, 0)}, nil, false}, {nodes{fun(0, 0)}, ints{0}, false}, {nodes{fun(0, -1)}, nil, false}, {nodes{fun(0, math.MinInt)}, nil, false}, {nodes{fun(0, math.MaxInt)}, ints{0}, false}, {nodes{x, fun(0, 0)}, nil, false}, {nodes{fun(0, 1)}, ints{0}, false}, {nodes{fun(0, 1)}, nil, false},
		{nodes{x, fun(0, 1)}, ints{0}, true}, {nodes{x, fun(0, 1)}, nil, false}, {nodes{x, fun(0, 1)}, ints{1}, false}, {nodes{x, fun(0, 1)}, ints{-1}, false}, {nodes{x, fun(0, 1)}, ints{0, 0}, false}, {nodes{x, fun(1, 1)}, ints{0}, false}, {nodes{x, fun(1, 1)}, ints{0, 0}, false}, {nodes{x, fun(-1, 1)}, ints{0}, false}, {nodes{x, fun(math.MaxInt, 1)}, ints{0}, false}, {nodes{x, fun(0, 2)}, ints{0}, false}, {nodes{x, fun(0, 2)}, ints{0, 0}, false},
		{nodes{x, y, fun(0, 2)}, ints{0, 1}, true}, {nodes{x, y, fun(0, 2)}, ints{1, 0}, false}, {nodes{x, y, fun(0, 1)}, ints{1}, false}, {nodes{x, y, fun(0, 2)}, ints{0}, false},
		{nodes{x, fun(0, 1), y, fun(1, 2)}, ints{0, 1, 2}, true}, {nodes{x, fun(2, 1), y, fun(0, 2)}, ints{1, 2, 0}, false}, {nodes{x, fun(0, 1), y, fun(0, 2)}, ints{0, 1, 2}, false}, {nodes{x, fun(0, 1), y, fun(1, 2)}, ints{0, 1}, false}, {nodes{x, fun(0, 1), fun(0, 1)}, ints{0}, false}, {nodes{x, fun(0, 1), fun(1, 1)}, ints{0, 1}, true},
		{nodes{x, fun(0, 1), fun(0, 0), fun(1, 2)}, ints{0, 1, 2}, true}, {nodes{x, fun(0, 1), fun(1, 0), fun(1, 2)}, ints{0, 1, 2}, false}, {nodes{x, fun(0, 1), y, fun(1, 1), plus(1, 3)}, ints{0, 2}, true}, {nodes{x, fun(1, 1), y, fun(0, 1), plus(1, 3)}, ints{2, 0}, false},
	} {
		f := api.Formula{Nodes: c.nodes, Args: c.args}
		if got := ast.Right(f); got != c.want {
			t.Errorf("Right of the formula %d: %v", i, got)
		}
		for node := range f.Nodes {
			if !c.want && (ast.Nest(f) != 0 || len(ast.Kids(f, node)) != 0) {
				t.Errorf("of the formula %d, that can not be: %d %v", i, ast.Nest(f), ast.Kids(f, node))
			}
		}
	}
}

// P13.1, P13.2: as many nodes as may be, and one more.
func TestMostNodes(t *testing.T) {
	for _, c := range []struct {
		f    tree
		want bool
	}{{many(299, hundredth, leaf(1)), true}, {many(300, hundredth, leaf(1)), false}, {many(149, more, leaf(1)), true}, {many(149, more, hundredth(leaf(1))), true}, {many(150, more, leaf(1)), false}} {
		if got := ast.Right(flat(c.f)); got != c.want {
			t.Errorf("Right of %d nodes: %v", len(flat(c.f).Nodes), got)
		}
	}
	most, less := flat(many(299, hundredth, leaf(1))), flat(many(298, hundredth, leaf(1)))
	half, above := flat(many(74, more, hundredth(leaf(1)))), flat(many(75, more, leaf(1)))
	for i, ask := range []func() (api.Formula, api.Errno){
		func() (api.Formula, api.Errno) { return ast.One(api.OpPercent, most) },
		func() (api.Formula, api.Errno) { return ast.Two(api.OpAdd, less, alone(leaves[0])) },
		func() (api.Formula, api.Errno) { return ast.Two(api.OpAdd, half, half) },
		func() (api.Formula, api.Errno) { return ast.Two(api.OpEq, most, most) },
		func() (api.Formula, api.Errno) { return ast.Call("F", most) },
		func() (api.Formula, api.Errno) { return ast.Call("F", above, half) },
		func() (api.Formula, api.Errno) { return ast.Call("F", slices.Repeat([]api.Formula{most}, 20)...) },
	} {
		if f, e := ask(); !isNone(f, e, api.ErrLong) {
			t.Errorf("asked %d: %d nodes, %d", i, len(f.Nodes), e)
		}
	}
	if f, e := ast.One(api.OpPercent, less); e != api.OK || !ast.Same(f, most) {
		t.Errorf("One with 300 nodes: %d", e)
	}
	if f, e := ast.Call("F", half, flat(many(74, more, leaf(1)))); e != api.OK || len(f.Nodes) != 300 || !ast.Right(f) {
		t.Errorf("Call with 300 nodes: %d %d", len(f.Nodes), e)
	}
	if f, e := ast.Two(api.OpAdd, half, flat(many(74, more, leaf(1)))); e != api.OK || len(f.Nodes) != 300 || !ast.Right(f) {
		t.Errorf("Two with 300 nodes: %d %d", len(f.Nodes), e)
	}
}

// P13.1, P13.2: as many arguments as may be, and one more.
func TestMostArguments(t *testing.T) {
	for n, want := range map[int]bool{0: true, 1: true, 19: true, 20: true, 21: false, 100: false} {
		if got := ast.Right(flat(call("F", some(n)...))); got != want {
			t.Errorf("Right with %d: %v", n, got)
		}
		l := slices.Repeat([]api.Formula{alone(leaves[1])}, n)
		if f, e := ast.Call("F", l...); want && (e != api.OK || len(f.Args) != n || !ast.Right(f)) || !want && !isNone(f, e, api.ErrArg) {
			t.Errorf("Call with %d: %+v %d", n, f, e)
		}
	}
}

// P13.1: Nest, and what is nested too deep.
func TestNest(t *testing.T) {
	sum, product := two(api.OpAdd, leaf(1), leaf(2)), two(api.OpMul, leaf(1), leaf(2))
	for i, c := range []struct {
		f    tree
		want int
	}{
		{leaf(1), 0}, {negated(leaf(1)), 1}, {hundredth(leaf(1)), 0}, {sum, 0}, {call("F"), 1}, {called(leaf(1)), 1}, {negated(negated(leaf(1))), 2}, {hundredth(hundredth(leaf(1))), 0}, {called(call("F")), 2}, {negated(call("F")), 2}, {called(negated(leaf(1))), 2}, {hundredth(negated(leaf(1))), 2}, {negated(hundredth(leaf(1))), 1},
		{two(api.OpMul, sum, sum), 1}, {two(api.OpMul, sum, leaf(1)), 1}, {two(api.OpMul, leaf(1), sum), 1}, {two(api.OpAdd, sum, sum), 1}, {two(api.OpAdd, sum, leaf(1)), 0}, {two(api.OpSub, leaf(1), sum), 1}, {two(api.OpAdd, product, product), 0}, {two(api.OpMul, product, leaf(1)), 0}, {two(api.OpDiv, leaf(1), product), 1},
		{two(api.OpPow, negated(leaf(1)), negated(leaf(2))), 1}, {negated(two(api.OpPow, leaf(1), leaf(2))), 2}, {negated(sum), 2}, {hundredth(sum), 1}, {called(sum), 1}, {two(api.OpEq, two(api.OpJoin, sum, product), sum), 0}, {two(api.OpJoin, two(api.OpEq, leaf(1), leaf(2)), leaf(3)), 1}, {two(api.OpEq, leaf(1), two(api.OpLt, leaf(1), leaf(2))), 1}, {two(api.OpEq, two(api.OpLt, leaf(1), leaf(2)), leaf(1)), 0}, {two(api.OpPow, two(api.OpPow, leaf(1), leaf(2)), leaf(1)), 0}, {two(api.OpPow, leaf(1), two(api.OpPow, leaf(1), leaf(2))), 1},
		{call("F", negated(negated(leaf(1))), call("G"), sum), 3}, {two(api.OpMul, hundredth(negated(sum)), call("F", sum)), 3}, {two(api.OpMul, two(api.OpAdd, call("F"), leaf(1)), negated(leaf(1))), 2}, {two(api.OpMul, sum, negated(leaf(1))), 1},
		{many(24, negated, leaf(1)), 24}, {many(24, called, leaf(1)), 24}, {many(23, called, call("F")), 24}, {many(25, added, leaf(1)), 24}, {many(200, hundredth, leaf(1)), 0}, {many(140, more, leaf(1)), 0}, {two(api.OpAdd, many(24, negated, leaf(1)), many(24, called, leaf(1))), 24}, {many(12, func(t tree) tree { return hundredth(negated(t)) }, leaf(1)), 24},
	} {
		f := flat(c.f)
		if got := ast.Nest(f); got != c.want || got != nestOf(c.f) || !ast.Right(f) {
			t.Errorf("Nest of the formula %d: %d, want %d", i, got, c.want)
		}
	}
	for i, c := range []tree{many(25, negated, leaf(1)), many(25, called, leaf(1)), many(24, called, call("F")), many(26, added, leaf(1)), hundredth(many(24, negated, leaf(1))), two(api.OpAdd, leaf(1), many(25, negated, leaf(2))), negated(many(24, called, leaf(1))), many(290, called, leaf(1))} {
		f := flat(c)
		if ast.Right(f) || ast.Nest(f) != 0 || len(ast.Kids(f, len(f.Nodes)-1)) != 0 {
			t.Errorf("too deep, but right: the formula %d", i)
		}
		if g, e := ast.Part(f, 0); !isNone(g, e, api.ErrForm) {
			t.Errorf("Part of the formula %d: %+v %d", i, g, e)
		}
	}
}

// P13.2: ErrDeep of One, Two and Call.
func TestTooDeep(t *testing.T) {
	deep, brackets := flat(many(24, negated, leaf(1))), flat(many(25, added, leaf(1)))
	x := alone(leaves[1])
	for i, c := range []struct {
		ask  func() (api.Formula, api.Errno)
		want api.Errno
	}{
		{func() (api.Formula, api.Errno) { return ast.One(api.OpNeg, deep) }, api.ErrDeep},
		{func() (api.Formula, api.Errno) { return ast.One(api.OpPercent, deep) }, api.ErrDeep},
		{func() (api.Formula, api.Errno) { return ast.Call("F", x, deep, x) }, api.ErrDeep},
		{func() (api.Formula, api.Errno) { return ast.Two(api.OpPow, deep, deep) }, api.OK},
		{func() (api.Formula, api.Errno) { return ast.Two(api.OpAdd, x, deep) }, api.OK},
		{func() (api.Formula, api.Errno) { return ast.Two(api.OpAdd, x, brackets) }, api.ErrDeep},
		{func() (api.Formula, api.Errno) { return ast.Two(api.OpAdd, brackets, x) }, api.OK},
		{func() (api.Formula, api.Errno) { return ast.Two(api.OpMul, brackets, x) }, api.ErrDeep},
		{func() (api.Formula, api.Errno) { return ast.Two(api.OpJoin, x, brackets) }, api.OK},
		{func() (api.Formula, api.Errno) { return ast.Call("F", brackets) }, api.ErrDeep},
	} {
		if f, e := c.ask(); c.want == api.OK && (e != api.OK || ast.Nest(f) != 24) || c.want != api.OK && !isNone(f, e, c.want) {
			t.Errorf("asked %d: %+v %d", i, f, e)
		}
	}
}

// P13.2: which error is told, where there are several.
func TestErrorsInOrder(t *testing.T) {
	x, wrong := alone(leaves[1]), alone(api.Node{})
	most, deep := flat(many(299, hundredth, leaf(1))), flat(many(24, negated, leaf(1)))
	lots := slices.Repeat([]api.Formula{x}, 21)
	none := api.Formula{}
	for i, c := range []struct {
		ask  func() (api.Formula, api.Errno)
		want api.Errno
	}{
		{func() (api.Formula, api.Errno) { return ast.One(api.OpNeg, wrong) }, api.ErrForm},
		{func() (api.Formula, api.Errno) { return ast.One(api.OpNeg, none) }, api.ErrForm},
		{func() (api.Formula, api.Errno) { return ast.One(api.OpAdd, most) }, api.ErrForm},
		{func() (api.Formula, api.Errno) { return ast.One(0, deep) }, api.ErrForm},
		{func() (api.Formula, api.Errno) { return ast.Two(api.OpAdd, x, wrong) }, api.ErrForm},
		{func() (api.Formula, api.Errno) { return ast.Two(api.OpAdd, wrong, x) }, api.ErrForm},
		{func() (api.Formula, api.Errno) { return ast.Two(api.OpAdd, most, none) }, api.ErrForm},
		{func() (api.Formula, api.Errno) { return ast.Two(api.OpNeg, x, most) }, api.ErrForm},
		{func() (api.Formula, api.Errno) { return ast.Call("f", lots...) }, api.ErrForm},
		{func() (api.Formula, api.Errno) { return ast.Call("F", append(slices.Clone(lots), wrong)...) }, api.ErrForm},
		{func() (api.Formula, api.Errno) { return ast.Call("F", wrong) }, api.ErrForm},
		{func() (api.Formula, api.Errno) { return ast.Call("F", append(slices.Clone(lots), most, deep)...) }, api.ErrArg},
		{func() (api.Formula, api.Errno) { return ast.Call("F", most, deep) }, api.ErrLong},
		{func() (api.Formula, api.Errno) { return ast.Two(api.OpMul, most, flat(many(25, added, leaf(1)))) }, api.ErrLong},
	} {
		if f, e := c.ask(); !isNone(f, e, c.want) {
			t.Errorf("asked %d: %+v %d, want %d", i, f, e, c.want)
		}
	}
}

// grown is a tree by chance, of some size at most.
func grown(r *rand.Rand, size int) tree {
	if size <= 1 || r.Intn(8) == 0 {
		if r.Intn(8) == 0 {
			return call("NOW")
		}
		return tree{n: leaves[r.Intn(len(leaves))]}
	}
	switch r.Intn(7) {
	case 0:
		return one(api.OpNeg+r.Intn(2), grown(r, size-1))
	case 1, 2:
		t := call([]string{"F", "SUM", "A1"}[r.Intn(3)])
		for left := size - 1; left > 0 && len(t.kids) < 20; {
			part := 1 + r.Intn(left)
			t.kids = append(t.kids, grown(r, part))
			left -= part
		}
		return t
	}
	left := 1 + r.Intn(max(1, size-2))
	return two(1+r.Intn(12), grown(r, left), grown(r, max(1, size-1-left)))
}

// made is a tree as a formula, put together by One, Two and Call.
func made(t *testing.T, u tree) api.Formula {
	t.Helper()
	var l []api.Formula
	for _, kid := range u.kids {
		l = append(l, made(t, kid))
	}
	kept := make([]api.Formula, len(l))
	for i, f := range l {
		kept[i] = copied(f)
	}
	var f api.Formula
	var e api.Errno
	switch u.n.Kind {
	case api.NdUnary:
		f, e = ast.One(u.n.Op, l[0])
	case api.NdBinary:
		f, e = ast.Two(u.n.Op, l[0], l[1])
	case api.NdCall:
		f, e = ast.Call(u.n.Text, l...)
	default:
		f, e = ast.Leaf(u.n)
	}
	if e != api.OK || !ast.Right(f) {
		t.Fatalf("%+v: %d", u, e)
	}
	for i, g := range l {
		if !ast.Same(g, kept[i]) {
			t.Fatalf("%+v was changed", kept[i])
		}
	}
	// What is written into what was handed in is seen nowhere else.
	for _, g := range l {
		clear(g.Nodes)
		clear(g.Args)
	}
	return f
}

// each tells all trees within a tree, in the order in which a formula has them.
func each(t tree, tell func(t tree)) {
	for _, kid := range t.kids {
		each(kid, tell)
	}
	tell(t)
}

// P13.2, P13.3: what is put together can be, and its parts are what it is made of; P13.1: Kids and Nest of it.
func TestByChance(t *testing.T) {
	r := rand.New(rand.NewSource(13))
	for range 3000 {
		u := grown(r, 1+r.Intn(40))
		want := flat(u)
		if nestOf(u) > 24 {
			continue
		}
		f := made(t, u)
		if !ast.Same(f, want) || ast.Nest(f) != nestOf(u) {
			t.Fatalf("%+v: %+v, nested %d, want %d", u, f, ast.Nest(f), nestOf(u))
		}
		node := 0
		ends := map[int]int{}
		each(u, func(v tree) {
			part, e := ast.Part(f, node)
			if e != api.OK || !ast.Same(part, flat(v)) || !ast.Right(part) {
				t.Fatalf("Part %d of %+v: %+v %d", node, f, part, e)
			}
			kids := ast.Kids(f, node)
			if len(kids) != len(v.kids) {
				t.Fatalf("Kids of %d of %+v: %v", node, f, kids)
			}
			for i, kid := range kids {
				if sub, _ := ast.Part(f, kid); !ast.Same(sub, flat(v.kids[i])) {
					t.Fatalf("Kids of %d of %+v: %v", node, f, kids)
				}
				ends[kid]++
			}
			clear(kids)
			_ = append(kids[:0], slices.Repeat([]int{-7}, 30)...)
			clear(part.Nodes)
			clear(part.Args)
			node++
		})
		if !ast.Same(f, want) || node != len(f.Nodes) || len(ends) != node-1 {
			t.Fatalf("%+v, but now %+v", want, f)
		}
	}
}

// P13.1, P13.2: no node of that number, and formulas that can not be.
func TestKidsAndPartOfNone(t *testing.T) {
	f := flat(two(api.OpAdd, leaf(1), call("F", leaf(2))))
	for _, node := range []int{-1, 4, 5, 100, math.MaxInt, math.MinInt} {
		if l := ast.Kids(f, node); len(l) != 0 {
			t.Errorf("Kids of %d: %v", node, l)
		}
		if g, e := ast.Part(f, node); !isNone(g, e, api.ErrArg) {
			t.Errorf("Part %d: %+v %d", node, g, e)
		}
	}
	wrong := copied(f)
	wrong.Nodes[0] = api.Node{}
	for node := -1; node <= 4; node++ {
		if l := ast.Kids(wrong, node); len(l) != 0 {
			t.Errorf("Kids of %d of what can not be: %v", node, l)
		}
		for _, g := range []api.Formula{wrong, {}, {Args: []int{0}}} {
			if h, e := ast.Part(g, node); !isNone(h, e, api.ErrForm) {
				t.Errorf("Part %d of what can not be: %+v %d", node, h, e)
			}
		}
	}
	if got := ast.Kids(f, 3); !slices.Equal(got, []int{0, 2}) {
		t.Errorf("Kids: %v", got)
	}
	if got := ast.Kids(f, 2); !slices.Equal(got, []int{1}) {
		t.Errorf("Kids: %v", got)
	}
}

// P13.1: Same, also of what can not be.
func TestSame(t *testing.T) {
	l := append(tops(), api.Formula{}, api.Formula{Args: []int{0}}, api.Formula{Args: []int{0, 0}}, alone(api.Node{}), alone(leaves[0]), alone(leaves[1]), api.Formula{Nodes: []api.Node{leaves[0]}, Args: []int{0}}, api.Formula{Nodes: []api.Node{{}, {}}})
	for i, f := range l {
		for j, g := range l {
			if got := ast.Same(f, copied(g)); got != (i == j) {
				t.Errorf("Same of %d and %d: %v", i, j, got)
			}
		}
		for _, s := range spoilers {
			if g := copied(f); len(g.Nodes) > 0 {
				s.spoil(&g.Nodes[0])
				if got, want := ast.Same(f, g), f.Nodes[0] == g.Nodes[0]; got != want {
					t.Errorf("Same with another %s: %v", s.what, got)
				}
			}
		}
	}
	if !ast.Same(api.Formula{}, api.Formula{Nodes: []api.Node{}, Args: []int{}}) {
		t.Error("Same of nil and empty lists")
	}
}

// walked tells whether a formula can be, but for its nodes and its depth, as the chapter says it: by a way from the last node on.
func walked(f api.Formula) bool {
	next, args, ok := 0, 0, true
	var walk func(node, left int)
	walk = func(node, left int) {
		if node < 0 || node >= len(f.Nodes) || left == 0 || !ok {
			ok = false
			return
		}
		n := f.Nodes[node]
		switch n.Kind {
		case api.NdUnary:
			walk(n.A, left-1)
		case api.NdBinary:
			walk(n.A, left-1)
			walk(n.B, left-1)
		case api.NdCall:
			if n.B < 0 || n.A < 0 || n.A+n.B > len(f.Args) || n.B == 0 && n.A != 0 {
				ok = false
				return
			}
			for _, kid := range f.Args[n.A : n.A+n.B] {
				walk(kid, left-1)
			}
			ok = ok && (n.B == 0 || n.A == args)
			args += n.B
		}
		ok = ok && node == next
		next++
	}
	walk(len(f.Nodes)-1, len(f.Nodes))
	return ok && next == len(f.Nodes) && args == len(f.Args)
}

// P13.1: Right of formulas that were changed by chance, held against a way through them.
func TestRightByChance(t *testing.T) {
	r := rand.New(rand.NewSource(31))
	rights, wrongs := 0, 0
	for range 100_000 {
		f := flat(grown(r, 1+r.Intn(7)))
		for range r.Intn(3) {
			node := r.Intn(len(f.Nodes))
			if n := &f.Nodes[node]; len(f.Args) > 0 && r.Intn(2) == 0 {
				f.Args[r.Intn(len(f.Args))] += r.Intn(3) - 1
			} else if n.Kind >= api.NdUnary {
				n.A += r.Intn(3) - 1
				if n.Kind != api.NdUnary {
					n.B += r.Intn(3) - 1
				}
			}
		}
		switch r.Intn(12) {
		case 0:
			f.Args = append(f.Args, r.Intn(3))
		case 1:
			f.Nodes = f.Nodes[:len(f.Nodes)-1]
		case 2:
			i, j := r.Intn(len(f.Nodes)), r.Intn(len(f.Nodes))
			f.Nodes[i], f.Nodes[j] = f.Nodes[j], f.Nodes[i]
		}
		want := walked(f)
		if got := ast.Right(f); got != want {
			t.Fatalf("Right of %+v: %v", f, got)
		}
		if want {
			rights++
		} else {
			wrongs++
		}
	}
	if min(rights, wrongs) < 10_000 {
		t.Errorf("%d right, %d wrong", rights, wrongs)
	}
}

// P7: very long lists.
func TestVeryLong(t *testing.T) {
	f := api.Formula{Nodes: slices.Repeat([]api.Node{leaves[1]}, 1_000_000), Args: make([]int, 1_000_000)}
	if ast.Right(f) || ast.Nest(f) != 0 || len(ast.Kids(f, 5)) != 0 || !ast.Same(f, f) {
		t.Error("a million nodes")
	}
	if g, e := ast.Part(f, 5); !isNone(g, e, api.ErrForm) {
		t.Errorf("Part: %d", e)
	}
	if g, e := ast.Call("F", slices.Repeat([]api.Formula{alone(leaves[1])}, 100_000)...); !isNone(g, e, api.ErrArg) {
		t.Errorf("Call: %d", e)
	}
	if ast.Right(api.Formula{Nodes: []api.Node{leaves[1]}, Args: f.Args}) {
		t.Error("a million Args")
	}
}
