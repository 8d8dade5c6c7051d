package sheets_test

import (
	"math/rand"
	"slices"
	"strings"
	"testing"

	"abacist/api"
	"abacist/grid"
	"abacist/lex"
	"abacist/sheets"
)

// most is the last column, and the last row, that a model has.
const most = 3

// model is a book told in another way: what stands in cells, by their names.
type model struct {
	names []string
	cells map[api.Cell]string
	scens []api.Scen
}

// book is the book of a model.
func (m model) book() api.Book {
	b := empty(m.names...)
	for sheet := range m.names {
		for row := 1; row <= most; row++ {
			for col := 1; col <= most; col++ {
				at := cell(sheet, col, row)
				if s, there := m.cells[at]; there {
					content, _ := grid.Read(s)
					b.Cells = append(b.Cells, api.Entry{At: at, Text: s, Val: content.Val})
				}
			}
		}
	}
	b.Scens = m.scens
	return b
}

// set is the error of setting a cell.
func (m model) set(at api.Cell, s string) api.Errno {
	content, e := grid.Read(s)
	switch {
	case e != api.OK:
		return e
	case content.Text == "":
		delete(m.cells, at)
	default:
		m.cells[at] = content.Text
	}
	return api.OK
}

// renamed is a formula's text in which the words ahead of a mark that are old are fresh; others stay.
func renamed(s, old, fresh string) string {
	if !strings.HasPrefix(s, "=") {
		return s
	}
	tokens, _, _ := lex.All(s[1:])
	told, behind := "=", 0
	for i, t := range tokens[:len(tokens)-1] {
		if t.Kind == lex.Word && t.Text == old && tokens[i+1].Kind == lex.Bang {
			told += s[1:][behind:t.At] + fresh
			behind = t.At + len(old)
		}
	}
	return told + s[1:][behind:]
}

// rename is the error of renaming, and the model then.
func (m model) rename(old, fresh string) (model, api.Errno) {
	place := slices.Index(m.names, old)
	switch {
	case place < 0, slices.Contains(badNames(), fresh):
		return m, api.ErrName
	case fresh != old && slices.Contains(m.names, fresh):
		return m, api.ErrTwice
	}
	then := model{slices.Clone(m.names), map[api.Cell]string{}, nil}
	then.names[place] = fresh
	isLong, isTwice := false, false
	for at, s := range m.cells {
		then.cells[at] = renamed(s, old, fresh)
		isLong = isLong || len(then.cells[at]) > 300
	}
	for _, s := range m.scens {
		ats, scen := map[string]int{}, api.Scen{Name: s.Name}
		for _, one := range s.Sets {
			name, at, _ := strings.Cut(one.At, "!")
			if name == old {
				name = fresh
			}
			one = api.Set{At: name + "!" + at, Text: renamed(one.Text, old, fresh)}
			ats[one.At]++
			scen.Sets = append(scen.Sets, one)
			isLong = isLong || len(one.Text) > 300
		}
		isTwice = isTwice || len(ats) < len(s.Sets)
		then.scens = append(then.scens, scen)
	}
	switch {
	case isLong:
		return m, api.ErrLong
	case isTwice:
		return m, api.ErrTwice
	}
	return then, api.OK
}

// uses is whether a formula, or an address, names a sheet.
func (m model) uses(name string) bool {
	for _, s := range m.cells {
		if renamed(s, name, "") != s {
			return true
		}
	}
	for _, s := range m.scens {
		for _, one := range s.Sets {
			if strings.HasPrefix(one.At, name+"!") || renamed(one.Text, name, "") != one.Text {
				return true
			}
		}
	}
	return false
}

// chance makes contents and names by chance.
type chance struct{ *rand.Rand }

func (c chance) one(l ...string) string { return l[c.Intn(len(l))] }

func (c chance) name() string {
	return c.one("a", "b", "ab", "A", "gone", "Abcdefghi_12", "c", "d", "A1", "")
}

func (c chance) address() string {
	return c.one("a", "b", "ab", "A", "gone", "Abcdefghi_12") + "!" + c.one("A1", "B2", "AZ99")
}

func (c chance) content() string {
	switch c.Intn(8) {
	case 0:
		return c.one("", "", "2/4", "'a!A1", "a!A1", "'", "TRUE", "#REF!", "\n", "=", "=A100", "'=a!A1")
	case 1:
		return "=" + strings.Repeat(c.address()+"+", 1+c.Intn(32)) + "1"
	}
	return c.one("=", "= ") + c.one("", "SUM(1,", "(1+", "\"a!A1\"&(") + c.address() + c.one("", ":C3", "+"+c.address(), "&\"b!A1\"") + c.one("", ")", ")")
}

// scens are scenarios as they can be.
func (c chance) scens() []api.Scen {
	var l []api.Scen
	for _, name := range []string{"A", "a", "s"}[:c.Intn(4)] {
		s := api.Scen{Name: name}
		for range 1 + c.Intn(4) {
			at := c.address()
			content, e := grid.Read(c.content())
			if e == api.OK && !slices.ContainsFunc(s.Sets, func(one api.Set) bool { return one.At == at }) {
				s.Sets = append(s.Sets, api.Set{At: at, Text: content.Text})
			}
		}
		if len(s.Sets) > 0 {
			l = append(l, s)
		}
	}
	return l
}

// P26.3 to P26.5: whatever is set, added and renamed, the book is that of the model.
func TestBooksByChance(t *testing.T) {
	c := chance{rand.New(rand.NewSource(26))}
	told := map[api.Errno]int{}
	for range 150 {
		m := model{[]string{"a"}, map[api.Cell]string{}, c.scens()}
		b := m.book()
		for range 40 {
			before, e := clone(b), api.OK
			var got api.Book
			var want api.Errno
			switch c.Intn(8) {
			case 0, 1:
				name := c.name()
				got, e = sheets.Add(b, name)
				want = m.add(name)
				if want == api.OK {
					m.names = append(m.names, name)
				}
			case 2, 3:
				old, fresh := c.name(), c.name()
				back := !m.uses(fresh)
				got, e = sheets.Rename(b, old, fresh)
				m, want = m.rename(old, fresh)
				if e == api.OK && (back || old == fresh) && !alike(rename(t, got, fresh, old), b) {
					t.Fatalf("Rename of %q to %q, and back: %v", old, fresh, b)
				}
			default:
				at, s := cell(c.Intn(len(m.names)), 1+c.Intn(most), 1+c.Intn(most)), c.content()
				got, e = sheets.Set(b, at, s)
				want = m.set(at, s)
			}
			told[e]++
			if e != want || e != api.OK && !zero(got) {
				t.Fatalf("%d, want %d, of %v", e, want, b)
			}
			if !alike(b, before) {
				t.Fatalf("changed: %v, that was %v", b, before)
			}
			if e == api.OK {
				b = got
			}
			if !alike(b, m.book()) || !sheets.Right(b) || !sheets.Same(b, m.book()) {
				t.Fatalf("%v, want %v", b, m.book())
			}
		}
	}
	for _, e := range []api.Errno{api.OK, api.ErrText, api.ErrAddr, api.ErrName, api.ErrTwice, api.ErrFull, api.ErrLong} {
		if told[e] < 5 {
			t.Errorf("too few of error %d: %d", e, told[e])
		}
	}
}

// add is the error of adding a sheet.
func (m model) add(name string) api.Errno {
	switch {
	case slices.Contains(badNames(), name):
		return api.ErrName
	case slices.Contains(m.names, name):
		return api.ErrTwice
	case len(m.names) == 6:
		return api.ErrFull
	}
	return api.OK
}
