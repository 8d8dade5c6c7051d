package sheets_test

import (
	"slices"
	"strings"
	"testing"

	"abacist/api"
	"abacist/sheets"
)

// P26.3: a sheet is added behind all others.
func TestAdd(t *testing.T) {
	b := sheets.New()
	want := []string{"Sheet_1"}
	for _, name := range []string{"b", "B", "sheet_1", "Abcdefghi_12", "abc1"} {
		before := clone(b)
		got, e := sheets.Add(b, name)
		want = append(want, name)
		if e != api.OK || !alike(got, empty(want...)) || !sheets.Right(got) {
			t.Errorf("Add of %q: %v, %d", name, got, e)
		}
		if !alike(b, before) {
			t.Errorf("Add of %q changed the book", name)
		}
		for _, again := range want {
			if twice, e := sheets.Add(got, again); e != api.ErrTwice || !zero(twice) {
				t.Errorf("Add of %q, that is there: %v, %d", again, twice, e)
			}
		}
		b = got
	}
	if got, e := sheets.Add(b, "seventh"); e != api.ErrFull || !zero(got) {
		t.Errorf("Add of a seventh one: %v, %d", got, e)
	}
	for _, name := range badNames() {
		for _, from := range []api.Book{b, book()} {
			if got, e := sheets.Add(from, name); e != api.ErrName || !zero(got) {
				t.Errorf("Add of %q: %v, %d", name, got, e)
			}
		}
	}
	other := book()
	other.Sheets = append(other.Sheets, "gone")
	if got, e := sheets.Add(book(), "gone"); e != api.OK || !alike(got, other) {
		t.Errorf("Add of gone: %v, %d", got, e)
	}
}

// rename renames what must go well, and looks that b stays as it was.
func rename(t *testing.T, b api.Book, old, fresh string) api.Book {
	t.Helper()
	before := clone(b)
	got, e := sheets.Rename(b, old, fresh)
	if e != api.OK || !sheets.Right(got) {
		t.Errorf("Rename of %q to %q: %d, %v", old, fresh, e, got)
	}
	if !alike(b, before) {
		t.Errorf("Rename of %q to %q changed the book", old, fresh)
	}
	return got
}

// P26.4: all formulas and addresses have the fresh name, texts and values stay.
func TestRename(t *testing.T) {
	want := book()
	want.Sheets[1] = "Long_name_12"
	want.Cells[1].Text = "=A1+Long_name_12!A1"
	want.Cells[5].Text = "=SUM(Long_name_12!A1:B2,gone!A1)"
	want.Scens[0].Sets = []api.Set{{At: "Long_name_12!A1", Text: "5"}, {At: "Sheet_1!A1", Text: "=Long_name_12!A1"}, {At: "Long_name_12!A2"}}
	got := rename(t, book(), "b", "Long_name_12")
	if !alike(got, want) {
		t.Errorf("Rename of b: %v", got)
	}
	if back := rename(t, got, "Long_name_12", "b"); !alike(back, book()) {
		t.Errorf("Rename there and back: %v", back)
	}
	want = book()
	want.Sheets[0] = "B"
	want.Cells[4].Text = "=B!A1&\"b!A1\""
	want.Scens[0].Sets[1].At = "B!A1"
	got = rename(t, book(), "Sheet_1", "B")
	if !alike(got, want) {
		t.Errorf("Rename of Sheet_1: %v", got)
	}
	if back := rename(t, got, "B", "Sheet_1"); !alike(back, book()) {
		t.Errorf("Rename there and back: %v", back)
	}
	want = book()
	want.Sheets[2] = "more"
	if got := rename(t, book(), "empty", "more"); !alike(got, want) {
		t.Errorf("Rename of empty: %v", got)
	}
}

// A sheet that is named as it is stays; what named the fresh name ahead of it names the sheet then.
func TestRenameToItself(t *testing.T) {
	for _, name := range book().Sheets {
		if got := rename(t, book(), name, name); !alike(got, book()) {
			t.Errorf("Rename of %q to itself: %v", name, got)
		}
	}
	got := rename(t, book(), "b", "gone")
	if got.Cells[5].Text != "=SUM(gone!A1:B2,gone!A1)" || got.Cells[1].Text != "=A1+gone!A1" || got.Scens[1].Sets[0].At != "gone!B2" {
		t.Errorf("Rename of b to gone: %v", got)
	}
	back := rename(t, got, "gone", "b")
	if back.Cells[5].Text != "=SUM(b!A1:B2,b!A1)" || back.Scens[1].Sets[0].At != "b!B2" {
		t.Errorf("Rename of gone to b: %v", back)
	}
}

// refused looks that a sheet can not be renamed so.
func refused(t *testing.T, b api.Book, old, fresh string, want api.Errno) {
	t.Helper()
	before := clone(b)
	if got, e := sheets.Rename(b, old, fresh); e != want || !zero(got) {
		t.Errorf("Rename of %q to %q: %v, %d, want %d", old, fresh, got, e, want)
	}
	if !alike(b, before) {
		t.Errorf("Rename of %q to %q changed the book", old, fresh)
	}
}

// Names that are not there, can not be, or are there already are refused, in that order.
func TestRenameRefused(t *testing.T) {
	for _, old := range []string{"", "gone", "B", "sheet_1", "A1", "b ", strings.Repeat("b", 1000)} {
		for _, fresh := range []string{"c", "b", "Sheet_1", "A1", "", old} {
			refused(t, book(), old, fresh, api.ErrName)
		}
	}
	for _, old := range book().Sheets {
		for _, fresh := range badNames() {
			refused(t, book(), old, fresh, api.ErrName)
		}
		for _, fresh := range book().Sheets {
			if fresh != old {
				refused(t, book(), old, fresh, api.ErrTwice)
			}
		}
	}
}

// long is a formula of so many bytes, 170 at least, its sign among them, that names a sheet a twice.
func long(n int) string {
	return `=a!A1&a!$B$2&"` + strings.Repeat("x", 150) + `"&"` + strings.Repeat("y", n-168) + `"`
}

// P26.4: a formula that would have more than 299 bytes behind its sign is refused, in a cell as in a scenario.
func TestRenameLong(t *testing.T) {
	for n := 270; n <= 300; n++ {
		s := long(n)
		if len(s) != n {
			t.Fatalf("%d bytes, not %d", len(s), n)
		}
		inCell := empty("a", "b")
		inCell.Cells = []api.Entry{{At: cell(1, 1, 1), Text: s, Val: n1}}
		inScen := empty("a", "b")
		inScen.Scens = []api.Scen{{Name: "s", Sets: []api.Set{{At: "a!A1", Text: "1"}, {At: "b!A1", Text: s}}}}
		for more := range 12 {
			fresh := "c" + strings.Repeat("d", more)
			longer := strings.ReplaceAll(s, "a!", fresh+"!")
			for _, b := range []api.Book{inCell, inScen} {
				if len(longer) > 300 {
					refused(t, b, "a", fresh, api.ErrLong)
					continue
				}
				got := rename(t, b, "a", fresh)
				if len(b.Cells) > 0 && got.Cells[0] != (api.Entry{At: cell(1, 1, 1), Text: longer, Val: n1}) {
					t.Errorf("Rename of a to %q: %v", fresh, got)
				}
				if len(b.Scens) > 0 && !slices.Equal(got.Scens[0].Sets, []api.Set{{At: fresh + "!A1", Text: "1"}, {At: "b!A1", Text: longer}}) {
					t.Errorf("Rename of a to %q: %v", fresh, got)
				}
				if back := rename(t, got, fresh, "a"); !alike(back, b) {
					t.Errorf("Rename of %q to a: %v", fresh, back)
				}
			}
		}
	}
}

// n1 is a value that a formula has.
var n1 = text("kept")

// P26.4: a scenario whose addresses fall together is refused, behind any formula that is too long.
func TestRenameTogether(t *testing.T) {
	b := empty("a", "b")
	b.Scens = []api.Scen{
		{Name: "s", Sets: []api.Set{{At: "a!A1", Text: "1"}, {At: "gone!A2", Text: "1"}, {At: "b!A1"}}},
		{Name: "t", Sets: []api.Set{{At: "gone!A1", Text: "2"}}},
	}
	got := rename(t, b, "a", "gone")
	if !slices.Equal(got.Scens[0].Sets, []api.Set{{At: "gone!A1", Text: "1"}, {At: "gone!A2", Text: "1"}, {At: "b!A1"}}) || !slices.Equal(got.Scens[1].Sets, b.Scens[1].Sets) {
		t.Errorf("Rename of a: %v", got)
	}
	for _, at := range []string{"gone!A1", "gone!B7"} {
		for place := range 3 {
			twice := clone(b)
			twice.Scens[0].Sets = slices.Insert(twice.Scens[0].Sets, place, api.Set{At: at})
			if at == "gone!B7" {
				twice.Scens[1].Sets = append(twice.Scens[1].Sets, api.Set{At: at}, api.Set{At: "a!B7"})
			}
			refused(t, twice, "a", "gone", api.ErrTwice)
			rename(t, twice, "a", "other")
			rename(t, twice, "a", "a")
			rename(t, twice, "b", "gone2")
			tooLong := clone(twice)
			tooLong.Scens[1].Sets = append(tooLong.Scens[1].Sets, api.Set{At: "b!C1", Text: long(300)})
			refused(t, tooLong, "a", "gone", api.ErrLong)
			tooLong = clone(twice)
			tooLong.Cells = []api.Entry{{At: cell(0, 1, 1), Text: long(300)}}
			refused(t, tooLong, "a", "gone", api.ErrLong)
			refused(t, tooLong, "a", "b", api.ErrTwice)
			refused(t, tooLong, "a", "A1", api.ErrName)
		}
	}
}

// scribble writes into all of a book, and behind its lists.
func scribble(b api.Book) {
	for i := range b.Sheets {
		b.Sheets[i] = "other"
	}
	for i := range b.Cells {
		b.Cells[i] = api.Entry{Text: "other"}
	}
	for _, s := range b.Scens {
		for i := range s.Sets {
			s.Sets[i] = api.Set{At: "other"}
		}
		_ = append(s.Sets, api.Set{At: "other"})
	}
	for i := range b.Scens {
		b.Scens[i] = api.Scen{Name: "other"}
	}
	_, _, _ = append(b.Sheets, "other"), append(b.Cells, api.Entry{Text: "other"}), append(b.Scens, api.Scen{Name: "other"})
}

// What is answered shares no memory with what was handed in, nor with another answer.
func TestBooksAreNew(t *testing.T) {
	for what, change := range map[string]func(b api.Book) (api.Book, api.Errno){
		"Set of a new one":   func(b api.Book) (api.Book, api.Errno) { return sheets.Set(b, cell(0, 7, 7), "=b!A1") },
		"Set":                func(b api.Book) (api.Book, api.Errno) { return sheets.Set(b, cell(0, 1, 1), "7") },
		"Set as it is":       func(b api.Book) (api.Book, api.Errno) { return sheets.Set(b, cell(0, 1, 1), "1") },
		"Set to nothing":     func(b api.Book) (api.Book, api.Errno) { return sheets.Set(b, cell(0, 1, 1), "") },
		"Set of none to it":  func(b api.Book) (api.Book, api.Errno) { return sheets.Set(b, cell(2, 1, 1), "") },
		"Add":                func(b api.Book) (api.Book, api.Errno) { return sheets.Add(b, "fresh") },
		"Rename":             func(b api.Book) (api.Book, api.Errno) { return sheets.Rename(b, "b", "fresh") },
		"Rename to itself":   func(b api.Book) (api.Book, api.Errno) { return sheets.Rename(b, "b", "b") },
		"Rename of an empty": func(b api.Book) (api.Book, api.Errno) { return sheets.Rename(b, "empty", "c") },
	} {
		b := book()
		// With room behind each list an append would write there.
		b.Sheets, b.Cells, b.Scens = slices.Grow(b.Sheets, 5), slices.Grow(b.Cells, 5), slices.Grow(b.Scens, 5)
		for i := range b.Scens {
			b.Scens[i].Sets = slices.Grow(b.Scens[i].Sets, 5)
		}
		first, e := change(b)
		if e != api.OK {
			t.Fatalf("%s: %d", what, e)
		}
		second, _ := change(b)
		want := clone(second)
		scribble(first)
		if !alike(b, book()) || !alike(second, want) {
			t.Errorf("%s: what is written into an answer is seen", what)
		}
		if b.Sheets[:4][3] != "" || b.Cells[:8][7] != (api.Entry{}) || b.Scens[:3][2].Name != "" || b.Scens[1].Sets[:2][1] != (api.Set{}) {
			t.Errorf("%s: something is written behind a list", what)
		}
		scribble(b)
		if !alike(second, want) {
			t.Errorf("%s: what is written into the book is seen", what)
		}
	}
}
