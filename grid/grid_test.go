package grid_test

import (
	"math"
	"math/rand"
	"strings"
	"testing"

	"abacist/api"
	"abacist/ast"
	"abacist/grid"
	"abacist/parse"
	"abacist/print"
)

// ratio is a by b, from 0 to 255, that nothing but 1 divides both.
func ratio(a, b byte) api.Value {
	r := api.Rat{Den: string([]byte{b})}
	if a > 0 {
		r.Num = string([]byte{a})
	}
	return api.Value{Kind: api.Number, Num: r}
}

func text(s string) api.Value { return api.Value{Kind: api.Text, Text: s} }
func truth(b bool) api.Value  { return api.Value{Kind: api.Truth, Truth: b} }
func fault(n int) api.Value   { return api.Value{Kind: api.Fault, Fault: n} }

// below is a number's opposite.
func below(v api.Value) api.Value {
	v.Num.Neg = true
	return v
}

// same is whether two contents are alike.
func same(a, b grid.Content) bool {
	return a.Text == b.Text && a.Formula == b.Formula && ast.Same(a.F, b.F) && a.Val == b.Val
}

// none is whether there is nothing in a content.
func none(c grid.Content) bool { return same(c, grid.Content{}) }

// long is a formula's text of so many bytes, of 156 at least.
func long(n int) string {
	return `"` + strings.Repeat("a", 150) + `"&"` + strings.Repeat("b", n-155) + `"`
}

// asks reads what must be a content, and reads its text again.
func asks(t *testing.T, s string, want grid.Content) {
	t.Helper()
	got, e := grid.Read(s)
	if e != api.OK || !same(got, want) {
		t.Errorf("Read of %q: %#v, %d, want %#v", s, got, e, want)
	}
	again, e := grid.Read(got.Text)
	if e != api.OK || !same(again, got) {
		t.Errorf("Read of %q, told of %q: %#v, %d, not %#v", got.Text, s, again, e, got)
	}
}

// P25.1, P25.3: what is no formula is a value, and told as that.
func TestReadLiterals(t *testing.T) {
	for s, want := range map[string]grid.Content{
		"":           {},
		"2/4":        {Text: "0.5", Val: ratio(1, 2)},
		"-2/6":       {Text: "-1/3", Val: below(ratio(1, 3))},
		"007.50":     {Text: "7.5", Val: ratio(15, 2)},
		"-0":         {Text: "0", Val: ratio(0, 1)},
		"12":         {Text: "12", Val: ratio(12, 1)},
		"'12":        {Text: "'12", Val: text("12")},
		"'a":         {Text: "a", Val: text("a")},
		"''a":        {Text: "''a", Val: text("'a")},
		"'":          {Text: "'", Val: text("")},
		"'=1":        {Text: "'=1", Val: text("=1")},
		" =1":        {Text: " =1", Val: text(" =1")},
		" 12":        {Text: " 12", Val: text(" 12")},
		"1=1":        {Text: "1=1", Val: text("1=1")},
		"A1":         {Text: "A1", Val: text("A1")},
		"'A1":        {Text: "A1", Val: text("A1")},
		"1/0":        {Text: "1/0", Val: text("1/0")},
		"TRUE":       {Text: "TRUE", Val: truth(true)},
		"FALSE":      {Text: "FALSE", Val: truth(false)},
		"'TRUE":      {Text: "'TRUE", Val: text("TRUE")},
		"true":       {Text: "true", Val: text("true")},
		"#DIV/0!":    {Text: "#DIV/0!", Val: fault(1)},
		"#CIRC!":     {Text: "#CIRC!", Val: fault(7)},
		"'#CIRC!":    {Text: "'#CIRC!", Val: text("#CIRC!")},
		"#CIRC":      {Text: "#CIRC", Val: text("#CIRC")},
		"'" + all(2): {Text: all(2), Val: text(all(2))},
	} {
		asks(t, s, want)
	}
}

// all is a text of all bytes that a text may have, an a ahead, so often.
func all(n int) string {
	s := "a"
	for b := byte(32); b < 127; b++ {
		s += string(rune(b))
	}
	return strings.Repeat(s, n)
}

// A text that is a value has at most 200 bytes; what stands for it may have one more.
func TestReadTextsAtTheirEnd(t *testing.T) {
	for _, first := range []string{"a", "'", "="} {
		s := first + strings.Repeat("b", 199)
		want := grid.Content{Text: "'" + s, Val: text(s)}
		if first == "a" {
			want.Text = s
			asks(t, s, want)
		}
		asks(t, "'"+s, want)
		for _, one := range []string{"'" + s + "c", "'" + s + strings.Repeat("c", 99)} {
			if got, e := grid.Read(one); e != api.ErrText || !none(got) {
				t.Errorf("Read of %d bytes: %#v, %d", len(one), got, e)
			}
		}
		if got, e := grid.Read("'" + s + strings.Repeat("c", 100)); e != api.ErrLong || !none(got) {
			t.Errorf("Read of 301 bytes: %#v, %d", got, e)
		}
	}
	number := strings.Repeat("0", 299) + "7"
	asks(t, number, grid.Content{Text: "7", Val: ratio(7, 1)})
	if got, e := grid.Read("0" + number); e != api.ErrLong || !none(got) {
		t.Errorf("Read of a number of 301 bytes: %#v, %d", got, e)
	}
}

// What can be no cell's is refused, all bytes that no text may have among it.
func TestReadNoTexts(t *testing.T) {
	for b := range 256 {
		for _, s := range []string{string([]byte{byte(b)}), string([]byte{'a', byte(b)}), string([]byte{'\'', byte(b)}), string([]byte{'\'', byte(b), 'a'})} {
			got, e := grid.Read(s)
			switch can := b >= 32 && b < 127; {
			case s[0] == '=':
				continue
			case can && (e != api.OK || got.Val.Kind == api.Blank):
				t.Errorf("Read of %q: %#v, %d", s, got, e)
			case !can && (e != api.ErrText || !none(got)):
				t.Errorf("Read of %q: %#v, %d", s, got, e)
			}
		}
	}
}

// P25.1, P25.3: a text with a sign ahead is a formula, and told as its own text is.
func TestReadFormulas(t *testing.T) {
	for s, want := range map[string]string{
		"= 1+ 2":               "=1+2",
		"=1":                   "=1",
		"=  A1":                "=A1",
		"=((1)+2)":             "=1+2",
		"=(1+2)*3":             "=(1+2)*3",
		"=$B$2:A1":             "=A1:$B$2",
		"=Sheet_1!A1 : B2":     "=Sheet_1!A1:B2",
		"=SUM( A1:B2 , 1.50 )": "=SUM(A1:B2,1.5)",
		"=NO()":                "=NO()",
		`="a ""b"" =" & ""`:    `="a ""b"" ="&""`,
		"=TRUE":                "=TRUE",
		"=#N/A":                "=#N/A",
		"=- -1 %":              "=--1%",
		"=1=2":                 "=1=2",
		"=000.250":             "=0.25",
	} {
		f, _, e := parse.Formula(want[1:])
		if e != api.OK {
			t.Fatalf("%q: %d", want, e)
		}
		asks(t, s, grid.Content{Text: want, Formula: true, F: f})
	}
}

// A formula has at most 300 bytes, its sign too; blanks count.
func TestReadFormulasAtTheirEnd(t *testing.T) {
	f, _, _ := parse.Formula(long(299))
	asks(t, "="+long(299), grid.Content{Text: "=" + long(299), Formula: true, F: f})
	one, _, _ := parse.Formula("1")
	asks(t, "="+strings.Repeat(" ", 298)+"1", grid.Content{Text: "=1", Formula: true, F: one})
	asks(t, "=1"+strings.Repeat(" ", 298), grid.Content{Text: "=1", Formula: true, F: one})
	for _, s := range []string{"=" + long(300), "=" + long(301), "=" + strings.Repeat(" ", 299) + "1", "=1" + strings.Repeat(" ", 299), "=" + strings.Repeat("=", 300), "=" + strings.Repeat("\n", 300), "=" + strings.Repeat("(", 100000)} {
		if got, e := grid.Read(s); e != api.ErrLong || !none(got) {
			t.Errorf("Read of %d bytes: %#v, %d", len(s), got, e)
		}
	}
	for _, s := range []string{"=" + strings.Repeat("=", 299), "=" + strings.Repeat("\n", 299), "=" + strings.Repeat(" ", 299)} {
		if got, e := grid.Read(s); e != api.ErrText || !none(got) {
			t.Errorf("Read of %d bytes: %#v, %d", len(s), got, e)
		}
	}
}

// What is no formula is refused as parse.Formula does.
func TestReadNoFormulas(t *testing.T) {
	for s, want := range map[string]api.Errno{
		"=":                               api.ErrText,
		"= ":                              api.ErrText,
		"==":                              api.ErrText,
		"==1":                             api.ErrText,
		"=1+":                             api.ErrText,
		"='a":                             api.ErrText,
		`="a`:                             api.ErrText,
		"=a1":                             api.ErrText,
		"=A1000":                          api.ErrText,
		"=A1!A1":                          api.ErrText,
		"=A100":                           api.ErrAddr,
		"=1+BA1":                          api.ErrAddr,
		"=A1:E41":                         api.ErrArea,
		"=\x00":                           api.ErrText,
		"=1\n":                            api.ErrText,
		"=\xff":                           api.ErrText,
		"=" + strings.Repeat("-", 25):     api.ErrDeep,
		"=" + strings.Repeat("(", 25):     api.ErrDeep,
		"=" + strings.Repeat("9", 78):     api.ErrNum,
		"=NO(" + strings.Repeat("1,", 20): api.ErrArg,
	} {
		if got, e := grid.Read(s); e != want || !none(got) {
			t.Errorf("Read of %q: %#v, %d, want %d", s, got, e, want)
		}
	}
}

// What is told shares nothing with what is told later.
func TestReadAnew(t *testing.T) {
	first, _ := grid.Read("=SUM(1,A1)")
	for i := range first.F.Nodes {
		first.F.Nodes[i] = api.Node{}
	}
	first.F.Args[0] = 7
	f, _, _ := parse.Formula("SUM(1,A1)")
	asks(t, "=SUM(1,A1)", grid.Content{Text: "=SUM(1,A1)", Formula: true, F: f})
}

// P25.1, P25.3, of texts put together by chance: what is read is what parse tells, or what stands for itself.
func TestReadByChance(t *testing.T) {
	c := rand.New(rand.NewSource(25))
	pieces := []string{"=", "1", "A1", "1", "2", "0", ".", "/", "-", "'", " ", "A1", "$B$2", "Sheet_1", "!", ":", "+", "*", "^", "&", "<", ">", "%", "(", ")", ",", "SUM(", "TRUE", "FALSE", "#N/A", "#DIV/0!", `"`, "a", "_", "\n"}
	formulas, literals := 0, 0
	for range 200000 {
		s := []string{"", "="}[c.Intn(2)]
		for range c.Intn(9) {
			s += pieces[c.Intn(len(pieces))]
		}
		got, e := grid.Read(s)
		if e != api.OK {
			if !none(got) {
				t.Errorf("Read of %q: %#v, %d", s, got, e)
			}
			continue
		}
		again, e := grid.Read(got.Text)
		if e != api.OK || !same(got, again) || got.Formula != strings.HasPrefix(s, "=") {
			t.Errorf("Read of %q: %#v, and again: %#v, %d", s, got, again, e)
		}
		if !got.Formula {
			literals++
			continue
		}
		formulas++
		f, _, _ := parse.Formula(s[1:])
		told, _ := print.Formula(f)
		if !ast.Same(f, got.F) || got.Text != "="+told || got.Val != (api.Value{}) {
			t.Errorf("Read of %q: %#v, want %q, %v", s, got, told, f)
		}
	}
	if formulas < 500 || literals < 10000 {
		t.Errorf("too few: %d formulas, %d literals", formulas, literals)
	}
}

// P25.2: cells are in order by sheet, then row, then column.
func TestLess(t *testing.T) {
	some := []int{math.MinInt, -1, 0, 1, 2, 99, math.MaxInt}
	var cells []api.Cell
	for _, sheet := range some {
		for _, row := range some {
			for _, col := range some {
				cells = append(cells, api.Cell{Sheet: sheet, Row: row, Col: col})
			}
		}
	}
	for i, a := range cells {
		for j, b := range cells {
			if got := grid.Less(a, b); got != (i < j) {
				t.Fatalf("Less of %v and %v: %t", a, b, got)
			}
		}
	}
}
