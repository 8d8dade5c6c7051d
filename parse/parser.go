package parse

import (
	"abacist/addr"
	"abacist/api"
	"abacist/ast"
	"abacist/lex"
	"abacist/ref"
	"abacist/value"
)

// The levels of formulas' texts: those from the first one on are of operators with an operand on both sides.
const (
	first    = 1
	minuses  = 6
	percents = 7
	singles  = 8
)

// The truths, as formulas have them.
const (
	yes = "TRUE"
	no  = "FALSE"
)

// parser goes through a formula's tokens. What it read last is made's last node. Where it meets an error, it stays at that token.
type parser struct {
	tokens []lex.Token
	at     int
	depth  int
	made   api.Formula
}

// level is a level of a parser's text.
type level struct {
	p *parser
	n int
}

// read reads what is of the level: its operands are of the next one, and read likewise.
func (l level) read() api.Errno {
	next := level{l.p, l.n + 1}
	switch l.n {
	case minuses:
		return l.p.minus(l.read, next.read)
	case percents:
		return l.p.percent(next.read)
	case singles:
		return l.p.single()
	}
	return l.p.row(l.n, next.read)
}

// whole reads all of the text.
func (p *parser) whole() api.Errno {
	if e := p.formula(); e != api.OK {
		return e
	}
	return p.must(lex.End)
}

// formula reads a formula that may stand within another one.
func (p *parser) formula() api.Errno { return level{p, first}.read() }

// row reads operands, with operators of a level between.
func (p *parser) row(n int, operand func() api.Errno) api.Errno {
	if e := operand(); e != api.OK {
		return e
	}
	for {
		op := p.operator()
		if ast.Level(api.Node{Kind: api.NdBinary, Op: op}) != n {
			return api.OK
		}
		ahead := p.last()
		p.at++
		if e := operand(); e != api.OK {
			return e
		}
		p.add(api.Node{Kind: api.NdBinary, Op: op, A: ahead, B: p.last()})
	}
}

// minus reads a minus and what is behind it, or what has none.
func (p *parser) minus(behind, without func() api.Errno) api.Errno {
	if !p.isSign(api.OpNeg) {
		return without()
	}
	if e := p.deeper(1, behind); e != api.OK {
		return e
	}
	p.add(api.Node{Kind: api.NdUnary, Op: api.OpNeg, A: p.last()})
	return api.OK
}

// percent reads an operand, and the percent signs behind it.
func (p *parser) percent(operand func() api.Errno) api.Errno {
	if e := operand(); e != api.OK {
		return e
	}
	for p.isSign(api.OpPercent) {
		p.at++
		p.add(api.Node{Kind: api.NdUnary, Op: api.OpPercent, A: p.last()})
	}
	return api.OK
}

// single reads what has no operators, but in brackets.
func (p *parser) single() api.Errno {
	switch t := p.token(); t.Kind {
	case lex.Number:
		p.leaf(api.Node{Kind: api.NdNumber, Num: t.Num})
	case lex.Text:
		p.leaf(api.Node{Kind: api.NdText, Text: t.Text})
	case lex.Fault:
		fault, _ := value.Named(t.Text)
		p.leaf(api.Node{Kind: api.NdFault, Op: fault})
	case lex.Open:
		return p.deeper(1, p.bracketed)
	case lex.Word:
		return p.word(t.Text)
	default:
		return api.ErrText
	}
	return api.OK
}

// bracketed reads a formula, and the bracket behind it.
func (p *parser) bracketed() api.Errno {
	if e := p.formula(); e != api.OK {
		return e
	}
	return p.must(lex.Close)
}

// word reads what begins with a word: the token behind it tells what that is.
func (p *parser) word(text string) api.Errno {
	// The End is behind all words.
	switch behind := p.tokens[p.at+1].Kind; {
	case behind == lex.Open:
		return p.call(text)
	case behind == lex.Bang:
		if !ref.Named(text) {
			return api.ErrText
		}
		p.at += 2
		return p.place(text)
	case text == yes, text == no:
		p.leaf(api.Node{Kind: api.NdTruth, Truth: text == yes})
		return api.OK
	}
	return p.place("")
}

// call reads a function's name, and its arguments in brackets.
func (p *parser) call(name string) api.Errno {
	if !Named(name) {
		return api.ErrText
	}
	var args []int
	read := func() api.Errno {
		var e api.Errno
		args, e = p.arguments()
		return e
	}
	if e := p.deeper(2, read); e != api.OK {
		return e
	}
	n := api.Node{Kind: api.NdCall, Text: name, B: len(args)}
	if len(args) > 0 {
		n.A = len(p.made.Args)
	}
	p.made.Args = append(p.made.Args, args...)
	p.add(n)
	return api.OK
}

// arguments reads a call's arguments, and the bracket behind them: which nodes they are.
func (p *parser) arguments() ([]int, api.Errno) {
	if p.takes(lex.Close) {
		return nil, api.OK
	}
	var args []int
	for {
		if len(args) == api.MaxArgs {
			return nil, api.ErrArg
		}
		if e := p.formula(); e != api.OK {
			return nil, e
		}
		args = append(args, p.last())
		if !p.takes(lex.Comma) {
			return args, p.must(lex.Close)
		}
	}
}

// place reads a cell, or an area, of a sheet that is named ahead of it, or not.
func (p *parser) place(sheet string) api.Errno {
	from, e := p.reference()
	if e != api.OK {
		return e
	}
	from.Sheet = sheet
	p.at++
	if !p.takes(lex.Colon) {
		p.add(api.Node{Kind: api.NdCell, Ref: from})
		return api.OK
	}
	to, e := p.reference()
	if e != api.OK {
		return e
	}
	n, e := area(from, to)
	if e != api.OK {
		return e
	}
	p.leaf(n)
	return api.OK
}

// reference is that of the word that must stand here.
func (p *parser) reference() (api.Ref, api.Errno) {
	t := p.token()
	if t.Kind != lex.Word {
		return api.Ref{}, api.ErrText
	}
	return ref.Parse(t.Text)
}

// area is the area from one cell to another one, columns and rows put in order; ErrArea, if it has too many cells.
func area(from, to api.Ref) (api.Node, api.Errno) {
	if from.Col > to.Col {
		from.Col, to.Col = to.Col, from.Col
		from.FixCol, to.FixCol = to.FixCol, from.FixCol
	}
	if from.Row > to.Row {
		from.Row, to.Row = to.Row, from.Row
		from.FixRow, to.FixRow = to.FixRow, from.FixRow
	}
	corners := addr.Area{Col1: from.Col, Row1: from.Row, Col2: to.Col, Row2: to.Row}
	if _, e := corners.Norm(); e != api.OK {
		return api.Node{}, e
	}
	return api.Node{Kind: api.NdArea, Ref: from, To: to}, api.OK
}

// deeper reads what stands one deeper, behind so many tokens; ErrDeep, ahead of these, if that is too deep.
func (p *parser) deeper(tokens int, behind func() api.Errno) api.Errno {
	if p.depth == api.MaxDepth {
		return api.ErrDeep
	}
	p.at += tokens
	p.depth++
	e := behind()
	p.depth--
	return e
}

// token is the one that is read next.
func (p *parser) token() lex.Token { return p.tokens[p.at] }

// operator is the operator that stands here, between two operands; 0, if there is none.
func (p *parser) operator() int {
	for op := range signs {
		if p.isSign(op) {
			return op
		}
	}
	return 0
}

// isSign is whether an operator's text stands here.
func (p *parser) isSign(op int) bool {
	t := p.token()
	return t.Kind == lex.Op && t.Text == Sign(op)
}

// takes goes on behind a token of a kind, if it stands here.
func (p *parser) takes(kind int) bool {
	if p.token().Kind != kind {
		return false
	}
	p.at++
	return true
}

// must goes on behind a token of a kind; ErrText, if it does not stand here.
func (p *parser) must(kind int) api.Errno {
	if !p.takes(kind) {
		return api.ErrText
	}
	return api.OK
}

// add puts a node behind those that were made.
func (p *parser) add(n api.Node) { p.made.Nodes = append(p.made.Nodes, n) }

// leaf adds the node of the token that stands here, and goes on behind it.
func (p *parser) leaf(n api.Node) {
	p.add(n)
	p.at++
}

// last is the node that was made last.
func (p *parser) last() int { return len(p.made.Nodes) - 1 }
