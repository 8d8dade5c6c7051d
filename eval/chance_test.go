package eval_test

import (
	"math/rand"
	"slices"
	"testing"

	"abacist/api"
	"abacist/ast"
	"abacist/eval"
	"abacist/funcs"
	"abacist/ops"
)

// tree is a node, and the trees that it is made of.
type tree struct {
	node api.Node
	kids []tree
}

// laid is the formula that a tree is, and whether it can be.
func (t tree) laid() (api.Formula, bool) {
	var parts []api.Formula
	for _, kid := range t.kids {
		f, ok := kid.laid()
		if !ok {
			return api.Formula{}, false
		}
		parts = append(parts, f)
	}
	var f api.Formula
	var e api.Errno
	switch t.node.Kind {
	case api.NdUnary:
		f, e = ast.One(t.node.Op, parts[0])
	case api.NdBinary:
		f, e = ast.Two(t.node.Op, parts[0], parts[1])
	case api.NdCall:
		f, e = ast.Call(t.node.Text, parts...)
	default:
		f, e = ast.Leaf(t.node)
	}
	return f, e == api.OK
}

// place is a cell, its sheet by its name.
type place struct {
	sheet    string
	col, row int
}

// model is sheets, values of cells that have one, and the cell in which formulas are.
type model struct {
	sheets []string
	values map[place]api.Value
	at     api.Cell
}

// span is the values from one cell to another one, row by row, in how many columns; false, if the sheet is not there.
func (m model) span(from, to api.Ref) ([]api.Value, int, bool) {
	sheet := from.Sheet
	if sheet == "" {
		sheet = m.sheets[m.at.Sheet]
	}
	var l []api.Value
	for row := from.Row; row <= to.Row; row++ {
		for col := from.Col; col <= to.Col; col++ {
			l = append(l, m.values[place{sheet, col, row}])
		}
	}
	return l, to.Col - from.Col + 1, slices.Contains(m.sheets, sheet)
}

// ends are the first and the last cell of a node that is a cell or an area.
func ends(n api.Node) (api.Ref, api.Ref) {
	if n.Kind == api.NdCell {
		return n.Ref, n.Ref
	}
	return n.Ref, n.To
}

// value is a tree's value, from its top on.
func (m model) value(t tree) api.Value {
	switch n := t.node; n.Kind {
	case api.NdNumber:
		return api.Value{Kind: api.Number, Num: n.Num}
	case api.NdText:
		return text(n.Text)
	case api.NdTruth:
		return truth(n.Truth)
	case api.NdFault:
		return fault(n.Op)
	case api.NdUnary:
		return ops.Unary(n.Op, m.value(t.kids[0]))
	case api.NdBinary:
		return ops.Binary(n.Op, m.value(t.kids[0]), m.value(t.kids[1]))
	case api.NdCall:
		var l []api.Arg
		for _, kid := range t.kids {
			l = append(l, m.argument(kid))
		}
		return funcs.Do(n.Text, m.at, l...)
	}
	l, _, there := m.span(ends(t.node))
	switch {
	case !there:
		return fault(api.FaultRef)
	case len(l) > 1:
		return fault(api.FaultValue)
	}
	return l[0]
}

// argument is a tree as an argument.
func (m model) argument(t tree) api.Arg {
	if t.node.Kind == api.NdCell || t.node.Kind == api.NdArea {
		first, last := ends(t.node)
		if l, cols, there := m.span(first, last); there {
			return api.Arg{Vals: l, Cols: cols, Area: true, Col: first.Col, Row: first.Row}
		}
	}
	return api.Arg{Vals: []api.Value{m.value(t)}, Cols: 1}
}

// places are all cells that a tree has references to, as the model has them.
func (m model) places(t tree) []place {
	var l []place
	if t.node.Kind == api.NdCell || t.node.Kind == api.NdArea {
		first, last := ends(t.node)
		sheet := first.Sheet
		if sheet == "" {
			sheet = m.sheets[m.at.Sheet]
		}
		for row := first.Row; row <= last.Row; row++ {
			for col := first.Col; col <= last.Col; col++ {
				l = append(l, place{sheet, col, row})
			}
		}
	}
	for _, kid := range t.kids {
		l = append(l, m.places(kid)...)
	}
	return l
}

// chance makes trees and values by chance.
type chance struct{ *rand.Rand }

func (c chance) one(l ...string) string { return l[c.Intn(len(l))] }

func (c chance) value() api.Value {
	if c.Intn(30) == 0 {
		return fault(1 + c.Intn(7))
	}
	l := []api.Value{n(0), n(1), n(-7), n(2), n(3), n(5), blank, blank, text(""), text("a"), text("12"), text(">1"), truth(true), truth(false)}
	return l[c.Intn(len(l))]
}

// leaf is a node that is made of none; cells are near to the grid's first one.
func (c chance) leaf() api.Node {
	from := api.Ref{Sheet: c.one("", "", "", "", "", "", "", "", "One", "two", "One", "two", "Three", "ONE"), Col: 1 + c.Intn(4), Row: 1 + c.Intn(4), FixCol: c.Intn(3) == 0, FixRow: c.Intn(3) == 0}
	to := api.Ref{Col: from.Col + c.Intn(3)*c.Intn(2), Row: from.Row + c.Intn(3)*c.Intn(2)}
	switch c.Intn(40) {
	case 0:
		return api.Node{Kind: api.NdFault, Op: 1 + c.Intn(7)}
	case 1, 2, 3, 4, 5, 6, 7, 8:
		return api.Node{Kind: api.NdNumber, Num: n(c.Intn(5)).Num}
	case 9, 10, 11, 12:
		return api.Node{Kind: api.NdText, Text: c.one("", "a", "12", ">2", "<>")}
	case 13, 14:
		return api.Node{Kind: api.NdTruth, Truth: c.Intn(2) == 0}
	case 15, 16, 17, 18, 19, 20, 21, 22:
		return api.Node{Kind: api.NdArea, Ref: from, To: to}
	}
	return api.Node{Kind: api.NdCell, Ref: from}
}

// tree is one of some nodes, its operators and functions any ones, now and then none.
func (c chance) tree(depth int) tree {
	if depth == 0 || c.Intn(6) == 0 {
		return tree{node: c.leaf()}
	}
	switch c.Intn(6) {
	case 0:
		return tree{api.Node{Kind: api.NdUnary, Op: api.OpNeg + c.Intn(2)}, []tree{c.tree(depth - 1)}}
	case 1, 2:
		return tree{api.Node{Kind: api.NdBinary, Op: api.OpAdd + c.Intn(12)}, []tree{c.tree(depth - 1), c.tree(depth - 1)}}
	}
	t := tree{node: api.Node{Kind: api.NdCall, Text: c.one(append(funcs.Names(), "IF", "IF", "SUM", "INDEX", "IFERROR", "NOSUCH")...)}}
	for range []int{0, 1, 1, 1, 1, 2, 2, 2, 3, 4}[c.Intn(10)] {
		t.kids = append(t.kids, c.tree(depth-1))
	}
	return t
}

// world is a scope of three sheets, and the model that it should be.
func (c chance) world(t *testing.T) (*eval.Scope, model) {
	m := model{[]string{"One", "two", "Three"}, map[place]api.Value{}, cell(c.Intn(3), 1+c.Intn(52), 1+c.Intn(99))}
	s := made(t, m.sheets...)
	for range 60 {
		at := cell(c.Intn(3), 1+c.Intn(7), 1+c.Intn(7))
		v := c.value()
		put(t, s, at, v)
		m.values[place{m.sheets[at.Sheet], at.Col, at.Row}] = v
	}
	return s, m
}

// P24.2: Do, held against trees that are told from their tops on.
func TestByChance(t *testing.T) {
	c := chance{rand.New(rand.NewSource(24))}
	kinds := map[int]int{}
	for range 400 {
		s, m := c.world(t)
		for range 30 {
			tree := c.tree(1 + c.Intn(4))
			f, ok := tree.laid()
			if !ok {
				t.Fatalf("%#v can not be", tree)
			}
			want := m.value(tree)
			if want == blank {
				want = n(0)
			}
			got, e := s.Do(f, m.at)
			if got != want || e != api.OK {
				t.Errorf("%#v: %#v, %d, want %#v", f, got, e, want)
			}
			kinds[got.Kind]++
		}
	}
	// P24.3: what Do tells is not Blank, but of all other kinds.
	if kinds[api.Blank] != 0 || kinds[api.Number] < 1000 || kinds[api.Text] < 300 || kinds[api.Truth] < 700 || kinds[api.Fault] < 1000 {
		t.Errorf("how many values of each kind: %v", kinds)
	}
}

// P24.3: a value stays, whatever is put into cells of which the formula has no reference.
func TestHangsByChance(t *testing.T) {
	c := chance{rand.New(rand.NewSource(243))}
	changed := 0
	for range 2000 {
		s, m := c.world(t)
		tree := c.tree(1 + c.Intn(3))
		f, _ := tree.laid()
		ahead, e := s.Do(f, m.at)
		needed := m.places(tree)
		for range 40 {
			at := cell(c.Intn(3), 1+c.Intn(7), 1+c.Intn(7))
			if !slices.Contains(needed, place{m.sheets[at.Sheet], at.Col, at.Row}) {
				put(t, s, at, c.value())
			}
		}
		if behind, e2 := s.Do(f, m.at); ahead != behind || e != e2 || e != api.OK {
			t.Errorf("%#v: %#v, %d, and with other cells changed %#v, %d", f, ahead, e, behind, e2)
		}
		for _, p := range needed {
			if sheet := slices.Index(m.sheets, p.sheet); sheet >= 0 {
				put(t, s, cell(sheet, p.col, p.row), c.value())
			}
		}
		if behind, _ := s.Do(f, m.at); ahead != behind {
			changed++
		}
	}
	if changed < 300 {
		t.Errorf("just %d values were others behind a change of what they hang on", changed)
	}
}
