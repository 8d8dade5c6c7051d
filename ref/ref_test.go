package ref_test

import (
	"math"
	"regexp"
	"strings"
	"testing"

	"abacist/addr"
	"abacist/api"
	"abacist/ref"
)

// beyond are numbers that no column, and no row, has, and no way.
var beyond = []int{0, -1, 100, 1000, -52, math.MaxInt, math.MaxInt - 50, math.MinInt, math.MinInt + 98}

// far are numbers as great as there are, by which a place would wrap round.
var far = []int{math.MaxInt, math.MaxInt - 1, math.MaxInt - 98, math.MinInt, math.MinInt + 1, math.MinInt + 98, 1 << 32, -1 << 32, 256, -256}

// names are texts of which some can name a sheet.
var names = []string{
	"S", "z", "Sheet_1", "Sheet1", "abcdefghijkl", "A_", "A_1", "A1_", "ABC1", "AAA1", "a1234", "A1000", "AB1234", "A1B", "AB", "ABC", "A", "TRUE1", "TRUE_", "FALS", "TRU", "XTRUE", "NOT", "SUM", "R1C1", "l______12345", "Z9Z",
	"", "abcdefghijklm", "_", "_A", "1", "1A", "9", "A1", "a1", "A0", "a00", "A000", "A01", "Z999", "AB1", "ab12", "aB123", "ZZ999", "BA100", "TRUE", "FALSE", "true", "false", "True", "fALSE",
	" A", "A ", "A B", "A-B", "A.B", "A!", "!A", "A$", "$A", "A'", "É", "AÉ", "A\xff", "\xff", "A\x00", "fal\u017fe", "tr\u1d1ce", "A@", "A[", "A`", "A{", "@A", "[A", "`A", "{A", "A/", "A:", "A1:B2", "ＡＢＣ", "AB\n", "\nAB",
}

var (
	formOfName = regexp.MustCompile(`\A[A-Za-z][A-Za-z0-9_]{0,11}\z`)
	noName     = regexp.MustCompile(`(?i)\A(?:[A-Z]{1,2}[0-9]{1,3}|TRUE|FALSE)\z`)
	formOfRef  = regexp.MustCompile(`\A(?:([^!]*)!)?(\$?)([A-Z]{1,2})(\$?)([1-9][0-9]{0,2})\z`)
)

// canName is what Named tells, found in another way.
func canName(s string) bool { return formOfName.MatchString(s) && !noName.MatchString(s) }

// P11.1: Named.
func TestNamed(t *testing.T) {
	yes := 0
	for _, s := range names {
		if canName(s) {
			yes++
		}
		if ref.Named(s) != canName(s) {
			t.Errorf("Named of %q: %v", s, !canName(s))
		}
	}
	if yes != 27 {
		t.Errorf("%d names are named", yes)
	}
	for _, s := range []string{strings.Repeat("A", 13), strings.Repeat("A", 1_000_000)} {
		if ref.Named(s) {
			t.Errorf("Named of %d bytes", len(s))
		}
	}
}

// P11.1: each byte at each place of a name.
func TestNamedByByte(t *testing.T) {
	for _, s := range []string{"?", "?b", "?bc", "a?", "a?c", "ab?", "a?1", "?1", "?b1", "Sheet?1", "?heet_1", "abcdefghijk?", "ab?1", "a?b"} {
		for b := range 256 {
			name := strings.Replace(s, "?", string([]byte{byte(b)}), 1)
			if ref.Named(name) != canName(name) {
				t.Errorf("Named of %q: %v", name, !canName(name))
			}
		}
	}
}

// refs are references of all kinds, in the grid and outside, of sheets that can be and can not.
func refs() []api.Ref {
	var l []api.Ref
	for _, sheet := range []string{"", "Sheet_1", "a", "abcdefghijkl", "A1", "TRUE", "a b", "abcdefghijklm", "_"} {
		for _, col := range []int{1, 2, 26, 27, 51, 52, 53, 0, -1, math.MaxInt, math.MinInt} {
			for _, row := range []int{1, 9, 10, 98, 99, 100, 0, -1, math.MaxInt, math.MinInt} {
				for fix := range 4 {
					l = append(l, api.Ref{Sheet: sheet, Col: col, Row: row, FixCol: fix&1 > 0, FixRow: fix&2 > 0})
				}
			}
		}
	}
	return l
}

// canBe is what Right tells, found in another way.
func canBe(r api.Ref) bool {
	return (r.Sheet == "" || canName(r.Sheet)) && 0 < r.Col && r.Col < 53 && 0 < r.Row && r.Row < 100
}

// P11.1: Right, and Text of what can not be; P11.5: Parse of Text is the reference.
func TestRightAndText(t *testing.T) {
	for _, r := range refs() {
		s := ref.Text(r)
		if ref.Right(r) != canBe(r) || (s != "") != canBe(r) {
			t.Errorf("of %+v: %v %q", r, !canBe(r), s)
		}
		if !canBe(r) {
			continue
		}
		if got, e := ref.Parse(s); got != r || e != api.OK {
			t.Errorf("Parse of %q: %+v %d, want %+v", s, got, e, r)
		}
	}
}

// samples are references, and their texts.
var samples = map[string]api.Ref{
	"A1": {Col: 1, Row: 1}, "AZ99": {Col: 52, Row: 99}, "Z10": {Col: 26, Row: 10}, "$B5": {Col: 2, Row: 5, FixCol: true}, "B$5": {Col: 2, Row: 5, FixRow: true}, "$AA$12": {Col: 27, Row: 12, FixCol: true, FixRow: true},
	"Sheet_1!A1": {Sheet: "Sheet_1", Col: 1, Row: 1}, "z!$C$9": {Sheet: "z", Col: 3, Row: 9, FixCol: true, FixRow: true}, "ABC1!AB$3": {Sheet: "ABC1", Col: 28, Row: 3, FixRow: true}, "abcdefghijkl!$A9": {Sheet: "abcdefghijkl", Col: 1, Row: 9, FixCol: true},
}

// P11.1: Text and Parse.
func TestTextAndParse(t *testing.T) {
	for s, r := range samples {
		if got := ref.Text(r); got != s {
			t.Errorf("Text of %+v: %q, want %q", r, got, s)
		}
		if got, e := ref.Parse(s); got != r || e != api.OK {
			t.Errorf("Parse of %q: %+v %d", s, got, e)
		}
	}
}

// P11.1: ErrAddr is told of what just is outside the grid.
func TestParseOutsideTheGrid(t *testing.T) {
	for _, s := range []string{"A100", "BA1", "ZZ999", "AZ100", "BA99", "$A100", "A$100", "$BA$1", "$ZZ$999", "S!A100", "Sheet_1!$BA1", "TRUEx!BA$1", "BC!BC1"} {
		if r, e := ref.Parse(s); r != (api.Ref{}) || e != api.ErrAddr {
			t.Errorf("Parse of %q: %+v %d", s, r, e)
		}
	}
}

// P11.1: ErrText is told of what is no reference's text, also outside the grid.
func TestParseRefuses(t *testing.T) {
	for _, s := range []string{
		"", "A", "1", "$", "$$", "$A", "A$", "$1", "$A$", "$$A1", "A$$1", "$A$$1", "A1$", "$A1$", "A$1$", "A$B1", "$A$B1", "A1$2", "A$1$2", "A$0", "A0", "A01", "$A$01", "A1000", "A$1000", "AAA1", "$AAA1", "AAA$1", "BA1000", "a1", "$a$1", "aB1", "A1 ", " A1", "A 1", "$ A1", "A$ 1", "A1A", "A1:B2", "A-1", "A+1", "A1%", "A1.5",
		"!", "!A1", "A1!", "S!", "S!!A1", "S!A1!", "S!A1!A1", "S!T!A1", "A1!A1", "a1!A1", "A01!A1", "TRUE!A1", "false!A1", "_S!A1", "1S!A1", "abcdefghijklm!A1", "S T!A1", " S!A1", "S !A1", "S! A1", "$S!A1", "S$!A1", "$S!$A$1", "S.A1", "'S'!A1", "S!A", "S!1", "S!a1", "S!A0", "S!A1000", "S!AAA1", "S!A$B1", "A1!A100", "TRUE!BA1", "!A100", "S!!A100",
		"É1", "\xff1", "A\xff1", "A1\xff", "A\x001", "\x00A1", "A1\x00", "A١", "Ａ1", "\xff!A1", "A1\n",
		strings.Repeat("A", 100_000) + "1", "A" + strings.Repeat("1", 100_000), strings.Repeat("$", 100_000), strings.Repeat("!", 100_000), "A18446744073709551617",
	} {
		if r, e := ref.Parse(s); r != (api.Ref{}) || e != api.ErrText {
			t.Errorf("Parse of %.20q: %+v %d", s, r, e)
		}
	}
}

// P11.1: Parse, held against the form of references, at all texts of a few bytes.
func TestParseByForm(t *testing.T) {
	l := []string{""}
	for ; len(l[0]) < 6; l = l[1:] {
		for _, b := range []string{"A", "Z", "1", "0", "$", "!"} {
			l = append(l, l[0]+b)
		}
		want := api.ErrText
		if p := formOfRef.FindStringSubmatch(l[0]); p != nil && (!strings.Contains(l[0], "!") || canName(p[1])) {
			_, _, want = addr.Parse(p[3] + p[5])
		}
		r, e := ref.Parse(l[0])
		if e != want || e != api.OK && r != (api.Ref{}) || e == api.OK && ref.Text(r) != l[0] {
			t.Errorf("Parse of %q: %+v %d, want %d", l[0], r, e, want)
		}
	}
}

// P11.3: Move; P11.5: Move there and back is the reference.
func TestMove(t *testing.T) {
	for _, r := range refs() {
		for _, cols := range append(far, 0, 1, -1, 25, -25, 51, -51, 52, -52, 53) {
			for _, rows := range append(far, 0, 1, -1, 89, -89, 98, -98, 99, -99) {
				want := r
				if !r.FixCol {
					want.Col += cols
				}
				if !r.FixRow {
					want.Row += rows
				}
				ok := canBe(r) && canBe(want)
				if !ok {
					want = api.Ref{}
				}
				got, moved := ref.Move(r, cols, rows)
				if got != want || moved != ok {
					t.Fatalf("Move of %+v by %d and %d: %+v %v, want %+v %v", r, cols, rows, got, moved, want, ok)
				}
				if back, ok := ref.Move(got, -cols, -rows); moved && (back != r || !ok) {
					t.Fatalf("Move of %+v by %d and %d, and back: %+v %v", r, cols, rows, back, ok)
				}
			}
		}
	}
}

// last is a way's last number.
func last(way int) int {
	if way == ref.Cols {
		return 52
	}
	return 99
}

// at is a reference that is at a place, that way.
func at(r api.Ref, way, place int) api.Ref {
	if way == ref.Cols {
		r.Col = place
	} else {
		r.Row = place
	}
	return r
}

// behind is each place's new one behind a change, that way, of n columns or rows from at on, that are put in or taken out; 0, if it is not there any more. They are found by going over all of them, as they stand behind it.
func behind(way, at, n int, in bool) []int {
	var stand []int
	for i := 1; i <= last(way); i++ {
		if i == at && in {
			stand = append(stand, make([]int, n)...)
		}
		if in || i < at || i >= at+n {
			stand = append(stand, i)
		}
	}
	places := make([]int, last(way)+1)
	for i, old := range stand[:min(len(stand), last(way))] {
		places[old] = i + 1
	}
	return places
}

// numbers are places, and how many, of which each is tried with each.
var numbers = []int{1, 2, 3, 10, 47, 50, 51, 52, 53, 97, 98, 99}

// changes tells changes of each way that can be: from which place on, and of how many.
func changes(tell func(way, from, n int)) {
	for _, way := range []int{ref.Cols, ref.Rows} {
		for _, from := range numbers {
			for _, n := range numbers {
				if from <= last(way) && n <= last(way) {
					tell(way, from, n)
				}
			}
		}
	}
}

// P11.2: Insert and Delete, at each place; P11.5: Delete of what Insert told is the reference.
func TestInsertAndDelete(t *testing.T) {
	changes(func(way, from, n int) {
		in, out := behind(way, from, n, true), behind(way, from, n, false)
		for p := 1; p <= last(way); p++ {
			r := at(api.Ref{Sheet: "S", Col: 7, Row: 8, FixCol: p%2 == 0, FixRow: p%3 == 0}, way, p)
			one(t, "Insert", r, way, in[p])(ref.Insert(r, way, from, n))
			one(t, "Delete", r, way, out[p])(ref.Delete(r, way, from, n))
			if got, ok := ref.Insert(r, way, from, n); ok {
				one(t, "Delete of Insert", r, way, p)(ref.Delete(got, way, from, n))
			}
		}
	})
}

// one tells whether r is at a place, behind a change that way; nowhere, if that is 0.
func one(t *testing.T, call string, r api.Ref, way, place int) func(got api.Ref, ok bool) {
	return func(got api.Ref, ok bool) {
		want := api.Ref{}
		if place > 0 {
			want = at(r, way, place)
		}
		if got != want || ok != (place > 0) {
			t.Errorf("%s of %+v, way %d: %+v %v, want %+v", call, r, way, got, ok, want)
		}
	}
}

// P11.4: Insert2 and Delete2, of all areas.
func TestInsert2AndDelete2(t *testing.T) {
	changes(func(way, from, n int) {
		in, out := behind(way, from, n, true), behind(way, from, n, false)
		for p := 1; p <= last(way); p++ {
			for q := 1; q <= last(way); q++ {
				a := at(api.Ref{Sheet: "S", Col: 7, Row: 8, FixCol: true}, way, p)
				b := at(api.Ref{Col: 5, Row: 6, FixRow: true}, way, q)
				x, y := spread(in, p, q)
				two(t, "Insert2", a, b, way, x, y)(ref.Insert2(a, b, way, from, n))
				x, y = left(out, p, q)
				two(t, "Delete2", a, b, way, x, y)(ref.Delete2(a, b, way, from, n))
			}
		}
	})
}

// spread is the first and last place of an area from p to q, of which the last one may have left the grid; 0, if it is none, or the first one has.
func spread(places []int, p, q int) (int, int) {
	if p > q || places[p] == 0 {
		return 0, 0
	}
	if places[q] == 0 {
		return places[p], len(places) - 1
	}
	return places[p], places[q]
}

// left is the first and last place of what is left of an area from p to q; 0, if it is none, or nothing is.
func left(places []int, p, q int) (x, y int) {
	for i := p; i <= q; i++ {
		if places[i] > 0 {
			y = places[i]
		}
		if x == 0 {
			x = y
		}
	}
	return x, y
}

// two tells whether an area's ends are at two places, behind a change that way; nowhere, if these are 0.
func two(t *testing.T, call string, a, b api.Ref, way, x, y int) func(c, d api.Ref, ok bool) {
	return func(c, d api.Ref, ok bool) {
		one(t, call, a, way, x)(c, ok)
		one(t, call, b, way, y)(d, ok)
	}
}

// Examples of the chapter.
func TestExamples(t *testing.T) {
	b5, b7 := api.Ref{Col: 2, Row: 5}, api.Ref{Col: 2, Row: 7}
	if got, ok := ref.Insert(b5, ref.Rows, 3, 2); got != b7 || !ok {
		t.Errorf("Insert: %+v %v", got, ok)
	}
	b2, b9 := api.Ref{Col: 2, Row: 2}, api.Ref{Col: 2, Row: 9}
	if c, d, ok := ref.Delete2(b2, b9, ref.Rows, 3, 2); c != b2 || d != b7 || !ok {
		t.Errorf("Delete2: %+v %+v %v", c, d, ok)
	}
	if got, ok := ref.Delete(api.Ref{Col: 2, Row: 4}, ref.Rows, 3, 2); got != (api.Ref{}) || ok {
		t.Errorf("Delete: %+v %v", got, ok)
	}
}

// refused tells whether all that take a change refuse it.
func refused(t *testing.T, a, b api.Ref, way, at, n int) {
	t.Helper()
	two(t, "Insert2", a, b, way, 0, 0)(ref.Insert2(a, b, way, at, n))
	two(t, "Delete2", a, b, way, 0, 0)(ref.Delete2(a, b, way, at, n))
	if canBe(a) && canBe(b) {
		one(t, "Insert", a, way, 0)(ref.Insert(a, way, at, n))
		one(t, "Delete", a, way, 0)(ref.Delete(a, way, at, n))
	}
}

// P11.2, P11.4: what is refused: a way, an at, an n that is none.
func TestChangesRefused(t *testing.T) {
	a, b := api.Ref{Col: 1, Row: 1}, api.Ref{Col: 3, Row: 3}
	for _, way := range []int{2, -1, 3, math.MaxInt, math.MinInt} {
		refused(t, a, b, way, 2, 1)
		refused(t, a, b, way, 0, 0)
	}
	for _, way := range []int{ref.Cols, ref.Rows} {
		for _, n := range append(beyond, last(way)+1) {
			refused(t, a, b, way, n, 1)
			refused(t, a, b, way, 50, n)
			refused(t, a, b, way, n, n)
		}
	}
}

// P11.2, P11.4: what is refused: references that can not be, at either end.
func TestWrongReferencesRefused(t *testing.T) {
	right := api.Ref{Sheet: "S", Col: 3, Row: 3}
	for _, r := range refs() {
		if canBe(r) {
			continue
		}
		for _, way := range []int{ref.Cols, ref.Rows} {
			refused(t, r, right, way, 2, 1)
			refused(t, right, r, way, 2, 1)
			refused(t, r, r, way, 40, 1)
			one(t, "Insert", r, way, 0)(ref.Insert(r, way, 2, 1))
			one(t, "Delete", r, way, 0)(ref.Delete(r, way, 2, 1))
		}
	}
}

// P11.4: the ends' places alone are held against each other, that way.
func TestEndsInOrderThatWay(t *testing.T) {
	a, b := api.Ref{Col: 9, Row: 2}, api.Ref{Sheet: "T", Col: 4, Row: 8}
	two(t, "Insert2", a, b, ref.Rows, 5, 11)(ref.Insert2(a, b, ref.Rows, 1, 3))
	two(t, "Delete2", a, b, ref.Rows, 1, 5)(ref.Delete2(a, b, ref.Rows, 1, 3))
	refused(t, api.Ref{Col: 9, Row: 2}, api.Ref{Col: 4, Row: 1}, 2, 1, 3)
	two(t, "Insert2", a, b, ref.Cols, 0, 0)(ref.Insert2(a, b, ref.Cols, 20, 1))
	two(t, "Delete2", a, b, ref.Cols, 0, 0)(ref.Delete2(a, b, ref.Cols, 20, 1))
}
