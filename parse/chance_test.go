package parse_test

import (
	"math/rand"
	"strings"
	"testing"

	"abacist/api"
	"abacist/ast"
	"abacist/lex"
	"abacist/parse"
	"abacist/ref"
	"abacist/value"
)

// What may be open in a row of tokens.
const (
	isMinus = iota
	isBracket
	isCall
	isBetween
)

// entry is what is open: a minus, a bracket, a call with its arguments so far, or an operator between two operands.
type entry struct {
	what int
	op   int
	name string
	args []api.Formula
}

// machine reads tokens one after another, with a list of what is open in place of functions that call each other. What it has at last is put together by package ast.
type machine struct {
	open []entry
	done []api.Formula
}

// pop takes what was done last.
func (m *machine) pop() api.Formula {
	f := m.done[len(m.done)-1]
	m.done = m.done[:len(m.done)-1]
	return f
}

// push puts behind what was done.
func (m *machine) push(f api.Formula, e api.Errno) {
	if e != api.OK {
		panic(e)
	}
	m.done = append(m.done, f)
}

// top is what was opened last.
func (m *machine) top() entry {
	if len(m.open) == 0 {
		return entry{what: -1}
	}
	return m.open[len(m.open)-1]
}

func (m *machine) shut() { m.open = m.open[:len(m.open)-1] }

// deeper opens something that counts for the depth.
func (m *machine) deeper(o entry) api.Errno {
	depth := 0
	for _, o := range m.open {
		if o.what != isBetween {
			depth++
		}
	}
	if depth == 24 {
		return api.ErrDeep
	}
	m.open = append(m.open, o)
	return api.OK
}

// fold ends what waits for an operand, and holds as tight as a level, or tighter.
func (m *machine) fold(level int) {
	for {
		switch o := m.top(); {
		case o.what == isMinus:
			m.push(ast.One(api.OpNeg, m.pop()))
		case o.what == isBetween && ast.Level(binary(o.op, 0, 0)) >= level:
			g := m.pop()
			m.push(ast.Two(o.op, m.pop(), g))
		default:
			return
		}
		m.shut()
	}
}

// operand reads what begins an operand at l[i]: the token behind it, and whether the operand is whole then; or the token at which an error is told, and that.
func (m *machine) operand(l []lex.Token, i int) (int, bool, api.Errno) {
	t := l[i]
	if o := m.top(); o.what == isCall && len(o.args) == 20 {
		return i, false, api.ErrArg
	}
	switch {
	case t.Kind == lex.Number:
		m.push(ast.Leaf(api.Node{Kind: api.NdNumber, Num: t.Num}))
	case t.Kind == lex.Text:
		m.push(ast.Leaf(text(t.Text)))
	case t.Kind == lex.Fault:
		n, _ := value.Named(t.Text)
		m.push(ast.Leaf(fault(n)))
	case t.Kind == lex.Op && t.Text == "-":
		if e := m.deeper(entry{what: isMinus}); e != api.OK {
			return i, false, e
		}
		return i + 1, false, api.OK
	case t.Kind == lex.Open:
		if e := m.deeper(entry{what: isBracket}); e != api.OK {
			return i, false, e
		}
		return i + 1, false, api.OK
	case t.Kind == lex.Word && l[i+1].Kind == lex.Open:
		return m.call(l, i)
	case t.Kind == lex.Word && l[i+1].Kind != lex.Bang && (t.Text == "TRUE" || t.Text == "FALSE"):
		m.push(ast.Leaf(api.Node{Kind: api.NdTruth, Truth: t.Text == "TRUE"}))
	case t.Kind == lex.Word:
		return m.place(l, i)
	default:
		return i, false, api.ErrText
	}
	return i + 1, true, api.OK
}

// call opens a call, or reads all of one without arguments.
func (m *machine) call(l []lex.Token, i int) (int, bool, api.Errno) {
	if !formOfName.MatchString(l[i].Text) {
		return i, false, api.ErrText
	}
	if e := m.deeper(entry{what: isCall, name: l[i].Text}); e != api.OK {
		return i, false, e
	}
	if l[i+2].Kind == lex.Close {
		m.push(ast.Call(l[i].Text))
		m.shut()
		return i + 3, true, api.OK
	}
	return i + 2, false, api.OK
}

// place reads a cell or an area.
func (m *machine) place(l []lex.Token, i int) (int, bool, api.Errno) {
	sheet := ""
	if l[i+1].Kind == lex.Bang {
		if !ref.Named(l[i].Text) {
			return i, false, api.ErrText
		}
		sheet = l[i].Text + "!"
		i += 2
	}
	var ends []api.Ref
	for {
		if l[i].Kind != lex.Word {
			return i, false, api.ErrText
		}
		r, e := ref.Parse(sheet + l[i].Text)
		if e != api.OK {
			return i, false, e
		}
		ends, sheet = append(ends, r), ""
		if len(ends) == 2 || l[i+1].Kind != lex.Colon {
			break
		}
		i += 2
	}
	if len(ends) == 1 {
		m.push(ast.Leaf(api.Node{Kind: api.NdCell, Ref: ends[0]}))
		return i + 1, true, api.OK
	}
	n := between(ends[0], ends[1])
	if (n.To.Col-n.Ref.Col+1)*(n.To.Row-n.Ref.Row+1) > 200 {
		return i, false, api.ErrArea
	}
	m.push(ast.Leaf(n))
	return i + 1, true, api.OK
}

// between is the area between two cells.
func between(a, b api.Ref) api.Node {
	n := api.Node{Kind: api.NdArea, Ref: a, To: b}
	if b.Col < a.Col {
		n.Ref.Col, n.Ref.FixCol, n.To.Col, n.To.FixCol = b.Col, b.FixCol, a.Col, a.FixCol
	}
	if b.Row < a.Row {
		n.Ref.Row, n.Ref.FixRow, n.To.Row, n.To.FixRow = b.Row, b.FixRow, a.Row, a.FixRow
	}
	return n
}

// behind reads the token behind an operand: whether what it ends is whole then; or ErrText.
func (m *machine) behind(t lex.Token) (bool, api.Errno) {
	if t.Kind == lex.Op && t.Text == "%" {
		m.push(ast.One(api.OpPercent, m.pop()))
		return true, api.OK
	}
	if t.Kind == lex.Op {
		for op := 1; op <= 12; op++ {
			if sign[op] == t.Text {
				m.fold(ast.Level(binary(op, 0, 0)))
				m.open = append(m.open, entry{what: isBetween, op: op})
			}
		}
		return false, api.OK
	}
	m.fold(1)
	o := m.top()
	switch {
	case o.what == -1 && t.Kind == lex.End:
		return true, api.OK
	case o.what == isBracket && t.Kind == lex.Close:
		m.shut()
		return true, api.OK
	case o.what == isCall && (t.Kind == lex.Comma || t.Kind == lex.Close):
		args := append(o.args, m.pop())
		m.shut()
		if t.Kind == lex.Close {
			m.push(ast.Call(o.name, args...))
			return true, api.OK
		}
		m.open = append(m.open, entry{what: isCall, name: o.name, args: args})
		return false, api.OK
	}
	return false, api.ErrText
}

// expected is what parse.Formula is to tell of a text, found in another way.
func expected(s string) (api.Formula, int, api.Errno) {
	l, at, e := lex.All(s)
	if e != api.OK {
		return api.Formula{}, at, e
	}
	var m machine
	whole := false
	for i := 0; i < len(l); {
		at := i
		if whole {
			whole, e = m.behind(l[i])
			i++
		} else {
			i, whole, e = m.operand(l, i)
			at = i
		}
		if e != api.OK {
			return api.Formula{}, l[at].At, e
		}
	}
	return m.pop(), 0, api.OK
}

// agree tells whether Formula tells of a text what is expected, and which error that is.
func agree(t *testing.T, s string) api.Errno {
	t.Helper()
	f, at, e := parse.Formula(s)
	want, wantAt, wantErr := expected(s)
	if !ast.Same(f, want) || at != wantAt || e != wantErr {
		t.Fatalf("Formula of %q: %+v %d %d, want %+v %d %d", s, f, at, e, want, wantAt, wantErr)
	}
	if e == api.OK && !ast.Right(f) {
		t.Fatalf("Formula of %q can not be: %+v", s, f)
	}
	return e
}

// pieces are what texts are made of by chance.
var pieces = []string{"1", "2.5", "A1", "B2", "$C$3", "A100", "x", "S!", "S", "F(", "SUM(", "f(", "(", "(", ")", ")", ")", ",", ",", ":", "!", "+", "-", "-", "*", "/", "^", "&", "=", "<>", "<", "<=", ">", ">=", "%", "TRUE", "FALSE", "\"a\"", "\"+\"", "#N/A", "A1:", "AZ99", " "}

// P14.2: texts of pieces, by chance.
func TestPiecesByChance(t *testing.T) {
	r := rand.New(rand.NewSource(14))
	told := map[api.Errno]int{}
	for range 200_000 {
		s := ""
		for range r.Intn(9) {
			s += pieces[r.Intn(len(pieces))]
		}
		told[agree(t, s)]++
	}
	if told[api.OK] < 1000 || told[api.ErrText] < 1000 || told[api.ErrAddr] < 100 || told[api.ErrArea] < 10 {
		t.Errorf("told: %v", told)
	}
}

// chance makes texts of formulas, by chance.
type chance struct{ *rand.Rand }

// one is one of some texts.
func (c chance) one(l ...string) string { return l[c.Intn(len(l))] }

// blank is a blank, or none.
func (c chance) blank() string { return c.one("", "", "", " ") }

// formula is a formula's text with so many parts, or about so many, in brackets now and then.
func (c chance) formula(size int) string {
	if c.Intn(6) == 0 {
		return "(" + c.blank() + c.formula(size) + ")"
	}
	if size <= 1 {
		return c.blank() + c.one("1", "0.25", "A1", "$B2", "S!C$3", "A1:B2", "$C3:A$4", "S!B2:A1", "TRUE", "FALSE", "\"a\"\"b\"", "\"\"", "#REF!", "NOW()", "TRUE()", "A100", "x", "A1:AZ99") + c.blank()
	}
	switch c.Intn(8) {
	case 0:
		return "-" + c.blank() + c.formula(size-1)
	case 1:
		return c.formula(size-1) + "%"
	case 2, 3:
		var args []string
		for left := size - 1; left > 0; {
			part := 1 + c.Intn(left)
			if c.Intn(4) == 0 {
				part = 1
			}
			args = append(args, c.formula(part))
			left -= part
		}
		return c.one("F", "SUM", "A1", "G9") + c.blank() + "(" + strings.Join(args, ",") + ")"
	}
	left := 1 + c.Intn(size-1)
	return c.formula(left) + sign[1+c.Intn(12)] + c.formula(size-left)
}

// P14.2, P14.3: texts of formulas by chance, some with a piece too many, too few, or another one.
func TestFormulasByChance(t *testing.T) {
	c := chance{rand.New(rand.NewSource(41))}
	told := map[api.Errno]int{}
	for range 20_000 {
		s := c.formula(1 + c.Intn(30))
		if c.Intn(3) == 0 {
			from := c.Intn(len(s))
			to := min(len(s), from+c.Intn(3))
			s = s[:from] + c.one(append(pieces, "")...) + s[to:]
		}
		told[agree(t, s)]++
	}
	for _, e := range []api.Errno{api.OK, api.ErrText, api.ErrAddr, api.ErrArea} {
		if told[e] < 100 {
			t.Errorf("told: %v", told)
		}
	}
}

// P14.2: deep texts, and calls with many arguments, by chance.
func TestLimitsByChance(t *testing.T) {
	c := chance{rand.New(rand.NewSource(25))}
	told := map[api.Errno]int{}
	for range 5000 {
		s, ends := "", ""
		full := c.Intn(30)
		for i := range 18 + c.Intn(12) {
			kind := c.Intn(5)
			if i == full {
				s, ends = s+"F("+strings.Repeat("2,", 17+c.Intn(4)), ")"+ends
			}
			switch kind {
			case 0:
				s += "-"
			case 1:
				s, ends = s+c.one("F(", "F(1,"), ")"+ends
			case 2, 4:
				s, ends = s+"(", ")"+ends
			case 3:
				s += c.one("1+", "1%^", "-1*", "")
			}
		}
		told[agree(t, s+c.one("1", "1", "", "A1:B2", "f(")+ends+c.one("", "", ")", "+1"))]++
	}
	for _, e := range []api.Errno{api.OK, api.ErrText, api.ErrDeep, api.ErrArg} {
		if told[e] < 100 {
			t.Errorf("told: %v", told)
		}
	}
}
