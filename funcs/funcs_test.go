package funcs_test

import (
	"math"
	"math/rand"
	"slices"
	"strings"
	"testing"

	"abacist/api"
	"abacist/fagg"
	"abacist/flog"
	"abacist/flook"
	"abacist/fnum"
	"abacist/ftext"
	"abacist/funcs"
)

var (
	blank = api.Value{}
	here  = api.Cell{Sheet: 2, Col: 5, Row: 9}
)

// n is a whole number from 0 to 255, or below 0 as far.
func n(a int) api.Value {
	r := api.Rat{Den: "\x01"}
	if a != 0 {
		r.Neg, r.Num = a < 0, string([]byte{byte(max(a, -a))})
	}
	return api.Value{Kind: api.Number, Num: r}
}

func text(s string) api.Value { return api.Value{Kind: api.Text, Text: s} }
func truth(b bool) api.Value  { return api.Value{Kind: api.Truth, Truth: b} }
func fault(n int) api.Value   { return api.Value{Kind: api.Fault, Fault: n} }

// single is an argument that is no area; area one that is, of so many columns.
func single(v api.Value) api.Arg { return api.Arg{Vals: []api.Value{v}, Cols: 1} }
func area(cols int, vs ...api.Value) api.Arg {
	return api.Arg{Vals: vs, Cols: cols, Area: true, Col: 3, Row: 4}
}

// singles are arguments that are no areas.
func singles(vs ...api.Value) []api.Arg {
	var l []api.Arg
	for _, v := range vs {
		l = append(l, single(v))
	}
	return l
}

// The chapters' tables: names of functions, layer by layer.
const (
	ofNumbers = "ABS SIGN INT TRUNC ROUND ROUNDDOWN ROUNDUP CEILING FLOOR MOD QUOTIENT POWER SQRT GCD LCM FACT COMBIN EVEN ODD ISEVEN ISODD"
	ofMany    = "SUM PRODUCT SUMSQ COUNT COUNTA COUNTBLANK MIN MAX AVERAGE MEDIAN VAR VARP LARGE SMALL RANK SUMPRODUCT COUNTIF SUMIF AVERAGEIF"
	ofTruths  = "IF IFERROR IFNA AND OR XOR NOT TRUE FALSE NA ISBLANK ISNUMBER ISTEXT ISLOGICAL ISERROR ISERR ISNA N T TYPE CHOOSE SWITCH"
	ofTexts   = "LEN LEFT RIGHT MID UPPER LOWER PROPER TRIM CONCAT REPT EXACT FIND SUBSTITUTE REPLACE VALUE CHAR CODE FIXED"
	ofPlaces  = "INDEX MATCH VLOOKUP HLOOKUP LOOKUP ROW COLUMN ROWS COLUMNS"
)

// all is all names of the tables.
func all() []string {
	return strings.Fields(strings.Join([]string{ofNumbers, ofMany, ofTruths, ofTexts, ofPlaces}, " "))
}

// none are names that no function has.
func none() []string {
	l := []string{"", " ", "\x00", "\xff", "é", "NOSUCH", "A1", "SUM(", "SUM()", "AVG", "POW", "STDEV", "NOW", "RAND", "XLOOKUP", "COLUMN1", "#NAME?", strings.Repeat("A", 1000)}
	for _, name := range all() {
		l = append(l, strings.ToLower(name), name[:1]+strings.ToLower(name[1:])+"x", " "+name, name+" ", name+"\x00", name+"Z", "Z"+name)
	}
	return l
}

// can is whether an argument can be (19), of values that can.
func can(a api.Arg) bool {
	full := a.Cols > 0 && len(a.Vals) > 0 && len(a.Vals) <= 200 && len(a.Vals)%max(a.Cols, 1) == 0
	return full && (a.Area || len(a.Vals) == 1) && !slices.ContainsFunc(a.Vals, func(v api.Value) bool { return slices.Contains(bad(), v) })
}

// bad are values that can not be.
func bad() []api.Value {
	return []api.Value{{Kind: -1}, {Kind: 5}, {Kind: api.Number}, {Text: "a"}, {Kind: api.Text, Text: strings.Repeat("a", 201)}, {Kind: api.Text, Text: "\n"}, {Kind: api.Fault}, {Kind: api.Fault, Fault: 8}}
}

// values are the one values of arguments; FaultValue in place of what has none.
func values(l []api.Arg) []api.Value {
	var vs []api.Value
	for _, a := range l {
		v := fault(api.FaultValue)
		if can(a) && len(a.Vals) == 1 {
			v = a.Vals[0]
		}
		vs = append(vs, v)
	}
	return vs
}

// model is what the layer's Do tells.
func model(name string, at api.Cell, l []api.Arg) api.Value {
	is := func(table string) bool { return slices.Contains(strings.Fields(table), name) }
	switch {
	case is(ofNumbers):
		return fnum.Do(name, values(l)...)
	case is(ofMany):
		return fagg.Do(name, l...)
	case is(ofTruths):
		return flog.Do(name, l...)
	case is(ofTexts):
		return ftext.Do(name, values(l)...)
	case is(ofPlaces):
		return flook.Do(name, at, l...)
	}
	return fault(api.FaultName)
}

// agree checks what a function answers, and that its arguments stay as they were.
func agree(t *testing.T, name string, at api.Cell, l ...api.Arg) api.Value {
	t.Helper()
	kept := slices.Clone(l)
	for i := range kept {
		kept[i].Vals = slices.Clone(l[i].Vals)
	}
	got, want := funcs.Do(name, at, l...), model(name, at, kept)
	if got != want {
		t.Errorf("%s at %v of %#v: %#v, want %#v", name, at, l, got, want)
	}
	if !slices.EqualFunc(l, kept, alike) {
		t.Errorf("%s: arguments %#v were %#v", name, l, kept)
	}
	return got
}

// alike is whether two arguments are alike.
func alike(a, b api.Arg) bool {
	return slices.Equal(a.Vals, b.Vals) && a.Cols == b.Cols && a.Area == b.Area && a.Col == b.Col && a.Row == b.Row
}

// P23.1: Names are the names of all layers, byte by byte in order, each time anew.
func TestNames(t *testing.T) {
	want := all()
	slices.Sort(want)
	for range 2 {
		got := funcs.Names()
		if !slices.Equal(got, want) {
			t.Errorf("Names: %q, want %q", got, want)
		}
		for i := range got {
			got[i] = "NOSUCH"
		}
		_ = append(got[:0], "A", "B")
	}
	if !funcs.Has("ABS") || funcs.Has("NOSUCH") {
		t.Error("what is written into an answer is a name")
	}
}

// P23.1: Names are those that the layers tell.
func TestLayersNames(t *testing.T) {
	want := slices.Concat(fnum.Names(), fagg.Names(), flog.Names(), ftext.Names(), flook.Names())
	slices.Sort(want)
	if got := funcs.Names(); !slices.Equal(got, want) {
		t.Errorf("Names: %q, want %q", got, want)
	}
}

// P23.1: Has is true of all names of the tables, and of no other one.
func TestHas(t *testing.T) {
	for _, name := range all() {
		if !funcs.Has(name) {
			t.Errorf("there is no %s", name)
		}
	}
	for _, name := range none() {
		if funcs.Has(name) {
			t.Errorf("there is %q", name)
		}
	}
}

// P23.1: Single is the value alone, no area, in memory of its own, whether it can be or not.
func TestSingle(t *testing.T) {
	for _, v := range append(bad(), blank, n(0), n(-3), text(""), text("a"), truth(true), truth(false), fault(1), fault(7)) {
		a, b := funcs.Single(v), funcs.Single(v)
		if !alike(a, single(v)) {
			t.Errorf("Single of %#v: %#v", v, a)
		}
		a.Vals[0] = text("other")
		if !alike(b, single(v)) || !alike(funcs.Single(v), single(v)) {
			t.Errorf("Single of %#v shares its memory", v)
		}
	}
}

// P23.2: of names that are none FaultName, whatever the arguments are.
func TestOtherNames(t *testing.T) {
	for _, name := range none() {
		for _, l := range [][]api.Arg{nil, {}, singles(n(1)), singles(n(1), n(2)), singles(fault(1), fault(3)), {{}}, {area(1, n(1), n(2))}, slices.Repeat(singles(n(1)), 21)} {
			if got := funcs.Do(name, here, l...); got != fault(api.FaultName) {
				t.Errorf("%q of %#v: %#v", name, l, got)
			}
		}
	}
}

// P23.2: functions answer as in the chapters' examples.
func TestExamples(t *testing.T) {
	half := api.Value{Kind: api.Number, Num: api.Rat{Num: "\x05", Den: "\x02"}}
	for _, c := range []struct {
		name string
		l    []api.Arg
		want api.Value
	}{
		{"SUM", singles(n(2), n(3)), n(5)},
		{"SUM", []api.Arg{funcs.Single(n(2)), funcs.Single(n(40))}, n(42)},
		{"SUM", []api.Arg{area(1, n(1), text("2"), truth(true))}, n(1)},
		{"SUM", singles(n(1), text("2"), truth(true)), n(4)},
		{"ROUND", singles(half, n(0)), n(3)},
		{"CEILING", singles(n(7), n(3)), n(9)},
		{"GCD", singles(n(12), n(18)), n(6)},
		{"EVEN", singles(n(-1)), n(-2)},
		{"IF", singles(n(2), text("a"), text("b")), text("a")},
		{"CHOOSE", singles(n(2), text("a"), text("b")), text("b")},
		{"SWITCH", singles(n(3), n(1), text("a"), n(3), text("b")), text("b")},
		{"MID", singles(text("abcd"), n(2), n(2)), text("bc")},
		{"SUBSTITUTE", singles(text("aXbX"), text("X"), text("-"), n(2)), text("aXb-")},
		{"FIXED", singles(half, n(2)), text("2.50")},
		{"MATCH", []api.Arg{single(n(3)), area(1, n(1), n(2), n(4))}, n(2)},
		{"VLOOKUP", []api.Arg{single(n(2)), area(2, n(1), text("a"), n(2), text("b")), single(n(2))}, text("b")},
		{"ROW", nil, n(9)},
		{"COLUMN", nil, n(5)},
		{"NA", nil, fault(api.FaultNA)},
		{"IF", singles(truth(true), blank), blank},
	} {
		if got := agree(t, c.name, here, c.l...); got != c.want {
			t.Errorf("%s of %#v: %#v, want %#v", c.name, c.l, got, c.want)
		}
	}
}

// P23.2: functions of one values take them from areas of one cell, and FaultValue in place of more, or of what can not be, each at its place.
func TestOneValues(t *testing.T) {
	two := area(2, n(1), n(2))
	for _, c := range []struct {
		name string
		l    []api.Arg
		want api.Value
	}{
		{"ABS", []api.Arg{area(1, n(-3))}, n(3)},
		{"ABS", []api.Arg{{Vals: []api.Value{n(-3)}, Cols: 1, Area: true, Col: 53, Row: -1}}, n(3)},
		{"ABS", []api.Arg{two}, fault(api.FaultValue)},
		{"ABS", []api.Arg{area(1, n(1), n(1))}, fault(api.FaultValue)},
		{"ABS", []api.Arg{area(1, fault(1), fault(1))}, fault(api.FaultValue)},
		{"ABS", []api.Arg{area(1, fault(1))}, fault(1)},
		{"ABS", []api.Arg{{}}, fault(api.FaultValue)},
		{"ABS", []api.Arg{{Vals: []api.Value{n(1)}}}, fault(api.FaultValue)},
		{"ABS", []api.Arg{{Vals: []api.Value{n(1)}, Cols: -1, Area: true}}, fault(api.FaultValue)},
		{"ABS", []api.Arg{{Vals: []api.Value{n(1)}, Cols: 2, Area: true}}, fault(api.FaultValue)},
		{"ABS", []api.Arg{area(1, slices.Repeat([]api.Value{n(1)}, 201)...)}, fault(api.FaultValue)},
		{"ABS", []api.Arg{area(1, blank)}, n(0)},
		{"LEN", []api.Arg{area(1, text("abc"))}, n(3)},
		{"LEN", []api.Arg{two}, fault(api.FaultValue)},
		{"LEN", []api.Arg{{}}, fault(api.FaultValue)},
		{"LEN", []api.Arg{area(1, fault(7))}, fault(7)},
		{"MOD", []api.Arg{two, single(fault(5))}, fault(api.FaultValue)},
		{"MOD", []api.Arg{single(fault(5)), two}, fault(5)},
		{"MOD", []api.Arg{{}, single(fault(5))}, fault(api.FaultValue)},
		{"MOD", []api.Arg{single(fault(5)), {}}, fault(5)},
		{"EXACT", []api.Arg{two, single(fault(5))}, fault(api.FaultValue)},
		{"EXACT", []api.Arg{single(fault(5)), {}}, fault(5)},
		{"SUM", []api.Arg{two}, n(3)},
		{"NOT", []api.Arg{two}, fault(api.FaultValue)},
		{"COLUMNS", []api.Arg{two}, n(2)},
	} {
		if got := agree(t, c.name, here, c.l...); got != c.want {
			t.Errorf("%s of %#v: %#v, want %#v", c.name, c.l, got, c.want)
		}
	}
	for _, v := range bad() {
		for _, a := range []api.Arg{single(v), area(1, v)} {
			for _, name := range []string{"ABS", "LEN", "SUM", "NOT", "ROWS"} {
				if got := agree(t, name, here, a); got != fault(api.FaultValue) {
					t.Errorf("%s of %#v: %#v", name, v, got)
				}
			}
		}
	}
}

// arguments are those that functions are held against models with.
func arguments() []api.Arg {
	l := []api.Arg{{}, {Area: true}, {Vals: []api.Value{n(1)}}, {Vals: []api.Value{n(1), n(2)}, Cols: 1}, area(2, n(1), n(2), n(3)), area(1, bad()[0]), single(bad()[2]), area(math.MaxInt, n(1))}
	for _, v := range []api.Value{blank, n(0), n(1), n(2), n(-3), text(""), text("a"), text("12"), truth(true), fault(1), fault(6)} {
		l = append(l, single(v), area(1, v), area(1, v, n(1)), area(2, n(2), v, n(3), v))
	}
	return l
}

// P23.2: each layer's functions answer as the layer's Do, of none and of each argument alone, of two and of three, at cells that are there and that are not.
func TestLayers(t *testing.T) {
	cells := []api.Cell{here, {}, {Sheet: -1, Col: -1, Row: -1}, {Sheet: 6, Col: 53, Row: 100}, {Sheet: math.MaxInt, Col: math.MinInt, Row: math.MaxInt}, {Col: 52, Row: 99}}
	l := arguments()
	for i, name := range all() {
		for _, at := range cells {
			agree(t, name, at)
		}
		for j, a := range l {
			agree(t, name, cells[(i+j)%len(cells)], a)
			for k := (i + j) % 3; k < len(l); k += 3 {
				agree(t, name, cells[(i+j+k)%len(cells)], a, l[k])
				agree(t, name, here, a, l[k], l[(i+5*j+7*k)%len(l)])
			}
		}
		for many := range 45 {
			agree(t, name, here, slices.Repeat(singles(n(1)), many)...)
			agree(t, name, here, slices.Repeat([]api.Arg{area(1, text("1"))}, many)...)
		}
	}
}

// P23.3: no name is that of two layers' functions.
func TestOnce(t *testing.T) {
	got := funcs.Names()
	if once := slices.Compact(slices.Clone(got)); !slices.Equal(got, once) {
		t.Errorf("names: %q, each once: %q", got, once)
	}
	layers := [][]string{fnum.Names(), fagg.Names(), flog.Names(), ftext.Names(), flook.Names()}
	for i, some := range layers {
		for _, name := range some {
			for j, other := range layers {
				if i != j && slices.Contains(other, name) {
					t.Errorf("%s is a name of two layers", name)
				}
			}
		}
	}
}

// right is whether a value can be (8).
func right(v api.Value) bool {
	switch v.Kind {
	case api.Blank:
		return v == blank
	case api.Number:
		whole := v.Num.Den == "\x01" && v.Num.Num != ""
		part := v.Num.Den > "\x01" && v.Num.Num != "" || len(v.Num.Den) > 1
		zero := v.Num == api.Rat{Den: "\x01"}
		return (whole || part || zero) && v == api.Value{Kind: api.Number, Num: v.Num}
	case api.Text:
		other := strings.IndexFunc(v.Text, func(r rune) bool { return r < 32 || r > 126 })
		return len(v.Text) <= 200 && other < 0 && v == text(v.Text)
	case api.Truth:
		return v == truth(v.Truth)
	}
	return v == fault(v.Fault) && 1 <= v.Fault && v.Fault <= 7
}

// P23.3: what Do answers can be, if all arguments can.
func TestRightByChance(t *testing.T) {
	chance := rand.New(rand.NewSource(23))
	var l []api.Arg
	for _, a := range arguments() {
		if can(a) {
			l = append(l, a)
		}
	}
	long := text(strings.Repeat("ab", 100))
	l = append(l, single(long), area(1, long, long), single(n(200)), single(text("1e400")))
	names := all()
	for range 40000 {
		name := names[chance.Intn(len(names))]
		var some []api.Arg
		for range chance.Intn(5) {
			some = append(some, l[chance.Intn(len(l))])
		}
		at := api.Cell{Sheet: chance.Intn(9) - 1, Col: chance.Intn(60) - 3, Row: chance.Intn(110) - 3}
		if got := agree(t, name, at, some...); !right(got) {
			t.Errorf("%s of %#v: %#v can not be", name, some, got)
		}
	}
}
