package eval

import (
	"abacist/addr"
	"abacist/api"
	"abacist/calls"
	"abacist/funcs"
	"abacist/ops"
	"abacist/value"
)

// formula is the value of the last node of f, that can be, in a cell that there is. Each node is told once, behind all that it is made of, as the argument that it would be of a function.
func (s *Scope) formula(f api.Formula, at api.Cell) api.Value {
	told := make([]api.Arg, 0, len(f.Nodes))
	for _, n := range f.Nodes {
		told = append(told, s.node(n, f.Args, told, at))
	}
	return calls.Value(told[len(told)-1])
}

// node is a node as an argument, of which the nodes ahead of it were told.
func (s *Scope) node(n api.Node, args []int, told []api.Arg, at api.Cell) api.Arg {
	switch n.Kind {
	case api.NdCell:
		return s.cells(n.Ref, n.Ref, at)
	case api.NdArea:
		return s.cells(n.Ref, n.To, at)
	case api.NdUnary:
		return funcs.Single(ops.Unary(n.Op, calls.Value(told[n.A])))
	case api.NdBinary:
		return funcs.Single(ops.Binary(n.Op, calls.Value(told[n.A]), calls.Value(told[n.B])))
	case api.NdCall:
		var l []api.Arg
		for _, kid := range args[n.A : n.A+n.B] {
			l = append(l, told[kid])
		}
		return funcs.Single(funcs.Do(n.Text, at, l...))
	}
	return funcs.Single(constant(n))
}

// constant is the value of a node that stands for itself.
func constant(n api.Node) api.Value {
	switch n.Kind {
	case api.NdNumber:
		return value.Num(n.Num)
	case api.NdText:
		return value.Text(n.Text)
	case api.NdTruth:
		return value.Truth(n.Truth)
	}
	return value.Fault(n.Op)
}

// cells is the values from one cell to another one, in order, as an area; a fault, if there is no such sheet. What names no sheet is on that of the formula's cell.
func (s *Scope) cells(first, last api.Ref, at api.Cell) api.Arg {
	sheet := at.Sheet
	if first.Sheet != "" {
		named, ok := s.Sheet(first.Sheet)
		if !ok {
			return funcs.Single(value.Fault(api.FaultRef))
		}
		sheet = named
	}
	area := addr.Area{Col1: first.Col, Row1: first.Row, Col2: last.Col, Row2: last.Row}
	a := api.Arg{Cols: last.Col - first.Col + 1, Area: true, Col: first.Col, Row: first.Row}
	for _, cell := range area.Cells(sheet) {
		a.Vals = append(a.Vals, s.Get(cell))
	}
	return a
}
