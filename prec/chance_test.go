package prec_test

import (
	"math/rand"
	"slices"
	"strconv"
	"testing"

	"abacist/addr"
	"abacist/api"
	"abacist/eval"
	"abacist/prec"
)

// span is a reference, or an area, as a model has it: the name of its sheet, and its first and last column and row.
type span struct {
	name                 string
	col, row, last, down int
}

// text is a span as formulas have it.
func (s span) text(area bool) string {
	text := addr.Text(s.col, s.row)
	if area {
		text += ":" + addr.Text(s.last, s.down)
	}
	if s.name != "" {
		text = s.name + "!" + text
	}
	return text
}

// has is whether a cell is one of a span's, in a cell of the own sheet.
func (s span) has(at api.Cell, own int) bool {
	sheet := own
	if s.name != "" {
		sheet = slices.Index(names, s.name)
	}
	return sheet == at.Sheet && s.col <= at.Col && at.Col <= s.last && s.row <= at.Row && at.Row <= s.down
}

// chance makes formulas by chance.
type chance struct{ *rand.Rand }

func (c chance) one(l ...string) string { return l[c.Intn(len(l))] }

// near is a number from 1 to last, most often near to 1, or to last.
func (c chance) near(last int) int {
	switch c.Intn(8) {
	case 0:
		return last - c.Intn(4)
	case 1:
		return 1 + c.Intn(last)
	}
	return 1 + c.Intn(5)
}

// span is one of at most two hundred cells, and whether it is an area.
func (c chance) span() (span, bool) {
	s := span{name: c.one("", "", "", "", "One", "two", "Three", "Four", "ONE"), col: c.near(52), row: c.near(99)}
	s.last, s.down = s.col, s.row
	area := c.Intn(2) == 0
	if area {
		s.last, s.down = min(52, s.col+c.Intn(4)), min(99, s.row+c.Intn(4))
	}
	return s, area
}

// formula is a formula's text, and its spans.
func (c chance) formula(depth int) (string, []span) {
	if depth == 0 || c.Intn(5) == 0 {
		if c.Intn(4) == 0 {
			return c.one("1", "2.5", `"B2"`, "TRUE", "#N/A", "ROW()"), nil
		}
		s, area := c.span()
		if area {
			return "SUM(" + s.text(true) + ")", []span{s}
		}
		return s.text(false), []span{s}
	}
	a, s := c.formula(depth - 1)
	switch c.Intn(6) {
	case 0:
		return "-(" + a + ")%", s
	case 1:
		first, area := c.span()
		second, area2 := c.span()
		return c.one("SUM", "COUNT", "MAX", "ROWS", "NOSUCH") + "(" + first.text(area) + "," + a + "," + second.text(area2) + ")", append(s, first, second)
	}
	b, s2 := c.formula(depth - 1)
	return "(" + a + ")" + c.one("+", "*", "&", "=", "-") + "(" + b + ")", append(s, s2...)
}

// needed is what spans need, found cell by cell of all that there are.
func needed(l []span, own int) []api.Cell {
	var found []api.Cell
	for sheet := range max(len(names), own+1) {
		for row := 1; row <= 99; row++ {
			for col := 1; col <= 52; col++ {
				at := cell(sheet, col, row)
				if slices.ContainsFunc(l, func(s span) bool { return s.has(at, own) }) {
					found = append(found, at)
				}
			}
		}
	}
	return found
}

// P27.1: Of, and Book, held against all cells, of which each is asked whether it is in a reference.
func TestOfByChance(t *testing.T) {
	c := chance{rand.New(rand.NewSource(27))}
	b := api.Book{Sheets: names}
	var all [][]api.Cell
	for range 1500 {
		text, spans := c.formula(c.Intn(4))
		at := cell(c.Intn(4), c.near(52), c.near(99))
		want := needed(spans, at.Sheet)
		if got := prec.Of(formula(t, text), at, names...); !slices.Equal(got, want) {
			t.Errorf("%s in %v: %v, want %v", text, at, got, want)
		}
		if len(text) < 250 {
			b.Cells, all = append(b.Cells, entry(at, "="+text)), append(all, want)
		}
	}
	got, needs := prec.Book(b)
	if len(got) != len(all) || len(needs) != len(all) || len(all) < 1000 {
		t.Fatalf("Book: %d cells, %d lists, want %d", len(got), len(needs), len(all))
	}
	for i, e := range b.Cells {
		if got[i] != e.At || !slices.Equal(needs[i], all[i]) {
			t.Errorf("Book: %v needs %v, want %v", got[i], needs[i], all[i])
		}
	}
}

// world is a scope of all sheets, with a value in each cell near to the first one, and near to the last one.
func (c chance) world(t *testing.T) *eval.Scope {
	t.Helper()
	s, e := eval.New(names...)
	if e != api.OK {
		t.Fatal(e)
	}
	for _, at := range window() {
		s.Put(at, c.value())
	}
	return s
}

// window is all cells near to the grid's first one, and to its last one.
func window() []api.Cell {
	var l []api.Cell
	for sheet := range names {
		l = append(l, addr.Area{Col1: 1, Row1: 1, Col2: 9, Row2: 9}.Cells(sheet)...)
		l = append(l, addr.Area{Col1: 48, Row1: 95, Col2: 52, Row2: 99}.Cells(sheet)...)
	}
	return l
}

func (c chance) value() api.Value {
	switch c.Intn(4) {
	case 0:
		return api.Value{}
	case 1:
		return api.Value{Kind: api.Text, Text: strconv.Itoa(c.Intn(9))}
	}
	return api.Value{Kind: api.Number, Num: api.Rat{Num: string([]byte{byte(1 + c.Intn(9))}), Den: "\x01"}}
}

// P27.2: a value stays, whatever is put into cells that the formula does not need.
func TestHangsByChance(t *testing.T) {
	c := chance{rand.New(rand.NewSource(272))}
	others := 0
	for range 400 {
		s := c.world(t)
		text, _ := c.formula(1 + c.Intn(3))
		at := cell(c.Intn(3), 1+c.Intn(52), 1+c.Intn(99))
		f := formula(t, text)
		ahead, e := s.Do(f, at)
		needs := prec.Of(f, at, names...)
		for _, other := range window() {
			if !slices.Contains(needs, other) {
				s.Put(other, c.value())
			}
		}
		if behind, e2 := s.Do(f, at); ahead != behind || e != api.OK || e2 != api.OK {
			t.Errorf("%s in %v: %v, %d, with other cells changed %v, %d", text, at, ahead, e, behind, e2)
		}
		for _, need := range needs {
			s.Put(need, c.value())
		}
		if behind, _ := s.Do(f, at); ahead != behind {
			others++
		}
	}
	if others < 100 {
		t.Errorf("just %d values were others behind a change of what is needed", others)
	}
}
