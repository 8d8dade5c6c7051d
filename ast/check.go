package ast

import (
	"slices"
	"strings"

	"abacist/addr"
	"abacist/api"
	"abacist/numtext"
	"abacist/rat"
	"abacist/ref"
	"abacist/value"
)

// What functions' names are made of.
const (
	capitals = "ABCDEFGHIJKLMNOPQRSTUVWXYZ"
	digits   = "0123456789"
)

// isLeaf is whether n can be, and is made of no others, whatever its Kind could be.
func isLeaf(n api.Node) bool {
	switch n.Kind {
	case api.NdNumber:
		return isAmount(n.Num) && n == api.Node{Kind: n.Kind, Num: n.Num}
	case api.NdText:
		return value.Right(api.Value{Kind: api.Text, Text: n.Text}) && n == api.Node{Kind: n.Kind, Text: n.Text}
	case api.NdTruth:
		return n == api.Node{Kind: n.Kind, Truth: n.Truth}
	case api.NdFault:
		return value.Name(n.Op) != "" && n == api.Node{Kind: n.Kind, Op: n.Op}
	case api.NdCell:
		return ref.Right(n.Ref) && n == api.Node{Kind: n.Kind, Ref: n.Ref}
	case api.NdArea:
		return isArea(n.Ref, n.To) && n == api.Node{Kind: n.Kind, Ref: n.Ref, To: n.To}
	}
	return false
}

// canBe is whether n can be, wherever its kids are.
func canBe(n api.Node) bool {
	switch n.Kind {
	// An operator that is none of its kind has the level of a leaf.
	case api.NdUnary:
		return Level(n) < alone && n == api.Node{Kind: n.Kind, Op: n.Op, A: n.A}
	case api.NdBinary:
		return Level(n) < alone && n == api.Node{Kind: n.Kind, Op: n.Op, A: n.A, B: n.B}
	case api.NdCall:
		if n.B < 0 || n.B > api.MaxArgs || n.B == 0 && n.A != 0 {
			return false
		}
		return isName(n.Text) && n == api.Node{Kind: n.Kind, Text: n.Text, A: n.A, B: n.B}
	}
	return isLeaf(n)
}

// isAmount is whether r is a number that formulas can tell: not below 0, and one that ends.
func isAmount(r api.Rat) bool {
	if !rat.Right(r) || r.Neg {
		return false
	}
	_, ends := numtext.Ends(r)
	return ends
}

// isArea is whether an area can have these ends: in order, and just the first one with a sheet.
func isArea(from, to api.Ref) bool {
	a := addr.Area{Col1: from.Col, Row1: from.Row, Col2: to.Col, Row2: to.Row}
	inOrder, e := a.Norm()
	return e == api.OK && inOrder == a && ref.Right(from) && ref.Right(to) && to.Sheet == ""
}

// isName is whether a function can be named s.
func isName(s string) bool {
	if s == "" || len(s) > api.MaxName {
		return false
	}
	return strings.Contains(capitals, s[:1]) && strings.Trim(s, capitals+digits) == ""
}

// kids is what n is made of, in order; a call's arguments are to be among f's Args.
func kids(f api.Formula, n api.Node) []int {
	switch n.Kind {
	case api.NdUnary:
		return []int{n.A}
	case api.NdBinary:
		return []int{n.A, n.B}
	case api.NdCall:
		return f.Args[n.A : n.A+n.B]
	}
	return nil
}

// nested is how deep f is nested. ErrLong, if it has too many nodes; ErrForm, if one of these can not be, or does not stand where it must; ErrDeep, if it is nested too deep.
func nested(f api.Formula) (int, api.Errno) {
	if len(f.Nodes) > api.MaxNodes {
		return 0, api.ErrLong
	}
	w := walk{f: f}
	for _, n := range f.Nodes {
		if !w.meets(n) {
			return 0, api.ErrForm
		}
	}
	if len(w.tops) != 1 || w.args != len(f.Args) {
		return 0, api.ErrForm
	}
	depth := w.depths[w.tops[0]]
	if depth > api.MaxDepth {
		return 0, api.ErrDeep
	}
	return depth, api.OK
}

// walk goes through a formula's nodes, each behind its kids: how deep those that it met are nested, which of them are kids of none that it met, and how many of Args it met.
type walk struct {
	f      api.Formula
	depths []int
	tops   []int
	args   int
}

// meets goes on to n; false, if n can not be, or not stand here: behind its kids, and these behind one another.
func (w *walk) meets(n api.Node) bool {
	if !canBe(n) {
		return false
	}
	if n.Kind == api.NdCall && n.B > 0 {
		if n.A != w.args || n.B > len(w.f.Args)-w.args {
			return false
		}
		w.args += n.B
	}
	own := kids(w.f, n)
	others := len(w.tops) - len(own)
	if others < 0 || !slices.Equal(w.tops[others:], own) {
		return false
	}
	w.tops = append(w.tops[:others], len(w.depths))
	w.depths = append(w.depths, w.depth(n, own))
	return true
}

// depth is how deep n is nested, that has these kids.
func (w *walk) depth(n api.Node, own []int) int {
	deepest := 0
	for i, kid := range own {
		depth := w.depths[kid]
		if inBrackets(n, w.f.Nodes[kid], i) {
			depth++
		}
		deepest = max(deepest, depth)
	}
	if n.Kind == api.NdCall || Level(n) == negating {
		deepest++
	}
	return deepest
}

// inBrackets is whether a kid of n, of these the i-th from 0 on, stands in brackets.
func inBrackets(n, kid api.Node, i int) bool {
	switch {
	case n.Kind == api.NdCall:
		return false
	case n.Kind == api.NdBinary && i == 1:
		return Level(kid) <= Level(n)
	}
	return Level(kid) < Level(n)
}
