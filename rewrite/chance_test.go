package rewrite_test

import (
	"math/rand"
	"slices"
	"testing"

	"abacist/api"
	"abacist/ast"
	"abacist/ref"
	"abacist/rewrite"
)

// lines are a sheet's columns, or rows, behind a change: at each place the old one's number; 0 of one that was put in.
type lines []int

// got is the lines of a sheet of so many that got n from at on; those beyond its end are there, too.
func got(last, at, n int) lines {
	var l lines
	for place := range last {
		if place+1 == at {
			l = append(l, make(lines, n)...)
		}
		l = append(l, place+1)
	}
	return l
}

// lost is the lines of a sheet of so many that lost n from at on.
func lost(last, at, n int) lines {
	var l lines
	for place := 1; place <= last; place++ {
		if place < at || place >= at+n {
			l = append(l, place)
		}
	}
	return l
}

// place is where a line is; 0, if it is gone.
func (l lines) place(line int) int { return slices.Index(l, line) + 1 }

// ends is where the first and the last one of some lines that are left are, the last one ahead of the sheet's end; 0 and 0, if none is left there.
func (l lines) ends(from, to, last int) (int, int) {
	var left []int
	for line := from; line <= to; line++ {
		if at := l.place(line); at > 0 {
			left = append(left, at)
		}
	}
	if len(left) == 0 || left[0] > last {
		return 0, 0
	}
	return left[0], min(left[len(left)-1], last)
}

// follow is a node behind a change of its sheet's rows, or columns.
func (l lines) follow(n api.Node, way int) api.Node {
	last := []int{52, 99}[way]
	from, to := &n.Ref.Col, &n.To.Col
	if way == ref.Rows {
		from, to = &n.Ref.Row, &n.To.Row
	}
	if n.Kind == api.NdCell {
		*from = l.place(*from)
		if *from == 0 || *from > last {
			return gone
		}
		return n
	}
	*from, *to = l.ends(*from, *to, last)
	if *from == 0 || (n.To.Col-n.Ref.Col+1)*(n.To.Row-n.Ref.Row+1) > 200 {
		return gone
	}
	return n
}

var gone = api.Node{Kind: api.NdFault, Op: api.FaultRef}

// line is a column or a row of an area's end: its number, and whether it is fixed.
type line struct {
	at  int
	fix bool
}

// moved is lines moved, those that are not fixed, and put in order; false, if one is not there then.
func moved(last, by int, ends ...line) ([]line, bool) {
	for i := range ends {
		if !ends[i].fix {
			ends[i].at += by
		}
		if ends[i].at < 1 || ends[i].at > last {
			return nil, false
		}
	}
	slices.SortStableFunc(ends, func(a, b line) int { return a.at - b.at })
	return ends, true
}

// move is a node so far on, found in another way: columns and rows for themselves.
func move(n api.Node, cols, rows int) api.Node {
	if n.Kind == api.NdCell {
		c, ok1 := moved(52, cols, line{n.Ref.Col, n.Ref.FixCol})
		r, ok2 := moved(99, rows, line{n.Ref.Row, n.Ref.FixRow})
		if !ok1 || !ok2 {
			return gone
		}
		n.Ref.Col, n.Ref.Row = c[0].at, r[0].at
		return n
	}
	c, ok1 := moved(52, cols, line{n.Ref.Col, n.Ref.FixCol}, line{n.To.Col, n.To.FixCol})
	r, ok2 := moved(99, rows, line{n.Ref.Row, n.Ref.FixRow}, line{n.To.Row, n.To.FixRow})
	if !ok1 || !ok2 || (c[1].at-c[0].at+1)*(r[1].at-r[0].at+1) > 200 {
		return gone
	}
	n.Ref = api.Ref{Sheet: n.Ref.Sheet, Col: c[0].at, FixCol: c[0].fix, Row: r[0].at, FixRow: r[0].fix}
	n.To = api.Ref{Col: c[1].at, FixCol: c[1].fix, Row: r[1].at, FixRow: r[1].fix}
	return n
}

// chance makes formulas by chance.
type chance struct{ *rand.Rand }

var sheets = []string{"", "", "S", "T", "Sheet_1"}

// near is a number from 1 to last, often near to one of both ends.
func (c chance) near(last int) int {
	switch c.Intn(4) {
	case 0:
		return 1 + c.Intn(6)
	case 1:
		return last - c.Intn(6)
	}
	return 1 + c.Intn(last)
}

func (c chance) fixed(r api.Ref) api.Ref {
	r.FixCol, r.FixRow = c.Intn(3) == 0, c.Intn(3) == 0
	return r
}

// leaf is a formula of a cell, of an area, or now and then of something else.
func (c chance) leaf() api.Formula {
	from := c.fixed(api.Ref{Sheet: sheets[c.Intn(len(sheets))], Col: c.near(52), Row: c.near(99)})
	to := c.fixed(api.Ref{Col: min(52, from.Col+c.Intn(20)), Row: min(99, from.Row+c.Intn(99))})
	to.Row = min(to.Row, from.Row+200/(to.Col-from.Col+1)-1)
	n := api.Node{Kind: api.NdArea, Ref: from, To: to}
	switch c.Intn(9) {
	case 0:
		n = api.Node{Kind: api.NdText, Text: "S!A1"}
	case 1:
		n = api.Node{Kind: api.NdFault, Op: 1 + c.Intn(7)}
	case 2, 3, 4:
		n = api.Node{Kind: api.NdCell, Ref: from}
	}
	f, e := ast.Leaf(n)
	if e != api.OK {
		panic(n)
	}
	return f
}

// formula is one of so many leaves.
func (c chance) formula(size int) api.Formula {
	if size == 1 {
		return c.leaf()
	}
	part := 1 + c.Intn(size-1)
	f, g := c.formula(part), c.formula(size-part)
	var e api.Errno
	switch c.Intn(4) {
	case 0:
		f, e = ast.Call("SUM", f, g)
	case 1:
		f, e = ast.Two(api.OpMul, f, g)
		f, _ = ast.One(api.OpNeg, f)
	default:
		f, e = ast.Two(api.OpAdd, f, g)
	}
	if e != api.OK {
		panic(e)
	}
	return f
}

// each is a formula, of which other tells each node with a reference.
func each(f api.Formula, other func(n api.Node) api.Node) api.Formula {
	g := api.Formula{Nodes: slices.Clone(f.Nodes), Args: slices.Clone(f.Args)}
	for i, n := range g.Nodes {
		if n.Kind == api.NdCell || n.Kind == api.NdArea {
			g.Nodes[i] = other(n)
		}
	}
	return g
}

// P16.1: Move, held against columns and rows for themselves.
func TestMoveByChance(t *testing.T) {
	c := chance{rand.New(rand.NewSource(16))}
	told := map[bool]int{}
	for range 20_000 {
		f := c.formula(1 + c.Intn(5))
		cols, rows := c.Intn(41)-20, c.Intn(61)-30
		switch c.Intn(4) {
		case 0:
			cols = 0
		case 1:
			rows = 0
		case 2:
			cols, rows = c.Intn(3)-1, c.Intn(3)-1
		}
		got, e := rewrite.Move(f, cols, rows)
		want := each(f, func(n api.Node) api.Node {
			m := move(n, cols, rows)
			told[m == gone]++
			return m
		})
		if !ast.Same(got, want) || e != api.OK || !ast.Right(got) {
			t.Fatalf("Move of %+v, %d, %d: %+v %d, want %+v", f, cols, rows, got, e, want)
		}
		// What follows: Move of nothing is the formula.
		if same, e := rewrite.Move(f, 0, 0); !ast.Same(same, f) || e != api.OK {
			t.Fatalf("Move of %+v by nothing: %+v %d", f, same, e)
		}
	}
	if told[true] < 5000 || told[false] < 5000 {
		t.Errorf("told: %v", told)
	}
}

// P16.1, P16.3: Insert and Delete, held against a sheet's lines; and there and back.
func TestInsertDeleteByChance(t *testing.T) {
	c := chance{rand.New(rand.NewSource(163))}
	told := map[bool]int{}
	back := 0
	for range 20_000 {
		f := c.formula(1 + c.Intn(5))
		own, sheet := sheets[c.Intn(len(sheets))], sheets[c.Intn(len(sheets))]
		way := c.Intn(2)
		last := []int{52, 99}[way]
		at, n := c.near(last), 1+c.Intn(5)
		if c.Intn(4) == 0 {
			n = c.near(last)
		}
		whole := true
		behind := func(l lines) api.Formula {
			return each(f, func(n api.Node) api.Node {
				name := n.Ref.Sheet
				if name == "" && sheet != "" {
					name = own
				}
				if name != sheet {
					return n
				}
				m := l.follow(n, way)
				told[m == gone]++
				ends := []int{n.To.Col, n.To.Row}
				whole = whole && m != gone && l.place(max(1, ends[way])) <= last
				return m
			})
		}
		taken, e := rewrite.Delete(f, own, sheet, way, at, n)
		if want := behind(lost(last, at, n)); !ast.Same(taken, want) || e != api.OK || !ast.Right(taken) {
			t.Fatalf("Delete of %+v, %q %q %d %d %d: %+v %d, want %+v", f, own, sheet, way, at, n, taken, e, want)
		}
		whole = true
		put, e := rewrite.Insert(f, own, sheet, way, at, n)
		if want := behind(got(last, at, n)); !ast.Same(put, want) || e != api.OK || !ast.Right(put) {
			t.Fatalf("Insert of %+v, %q %q %d %d %d: %+v %d, want %+v", f, own, sheet, way, at, n, put, e, want)
		}
		if !whole {
			continue
		}
		back++
		if f2, e := rewrite.Delete(put, own, sheet, way, at, n); !ast.Same(f2, f) || e != api.OK {
			t.Fatalf("Delete of Insert of %+v, %q %q %d %d %d: %+v %d", f, own, sheet, way, at, n, f2, e)
		}
	}
	if told[true] < 2000 || told[false] < 2000 || back < 5000 {
		t.Errorf("told: %v, and back %d", told, back)
	}
}

// P16.2: Rename and Uses, held against the nodes one by one.
func TestNamesByChance(t *testing.T) {
	c := chance{rand.New(rand.NewSource(162))}
	names := append(slices.Clone(sheets), "U", "V2_")
	for range 20_000 {
		f := c.formula(1 + c.Intn(5))
		old, fresh, own := names[c.Intn(len(names))], names[2+c.Intn(len(names)-2)], names[c.Intn(len(names))]
		uses := false
		want := each(f, func(n api.Node) api.Node {
			switch n.Ref.Sheet {
			case "":
				uses = uses || old == "" || old == own
			case old:
				uses = true
				n.Ref.Sheet = fresh
			}
			return n
		})
		got, e := rewrite.Rename(f, old, fresh)
		if !ast.Same(got, want) || e != api.OK || !ast.Right(got) {
			t.Fatalf("Rename of %+v, %q %q: %+v %d, want %+v", f, old, fresh, got, e, want)
		}
		if rewrite.Uses(f, own, old) != uses {
			t.Fatalf("Uses of %+v, %q %q: %v", f, own, old, !uses)
		}
	}
}
