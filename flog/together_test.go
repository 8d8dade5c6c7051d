package flog_test

import (
	"slices"
	"testing"

	"abacist/api"
	"abacist/flog"
)

// together checks what AND, OR and XOR answer.
func together(t *testing.T, and, or, xor api.Value, l ...api.Arg) {
	t.Helper()
	want(t, and, "AND", l...)
	want(t, or, "OR", l...)
	want(t, xor, "XOR", l...)
}

// wrong checks that AND, OR and XOR answer a fault.
func wrong(t *testing.T, n int, l ...api.Arg) {
	t.Helper()
	together(t, fault(n), fault(n), fault(n), l...)
}

// P20.1: AND, OR and XOR of all truths of one argument to twenty, each as an area, or not, or all in one.
func TestTogether(t *testing.T) {
	for n := 1; n <= 20; n++ {
		for _, pattern := range []uint{0, 1, 3, 5, 1<<20 - 1, 1<<19 - 1, 0xaaaaa, 0x80000, 0x12345} {
			var vs []api.Value
			yes := 0
			for i := range n {
				b := pattern>>i&1 == 1
				vs = append(vs, truth(b))
				if b {
					yes++
				}
			}
			and, or, xor := truth(yes == n), truth(yes > 0), truth(yes%2 == 1)
			together(t, and, or, xor, each(false, vs...)...)
			together(t, and, or, xor, each(true, vs...)...)
			together(t, and, or, xor, area(vs...))
			together(t, and, or, xor, append(singles(vs[1:]...), area(vs[0]))...)
		}
	}
	yes, no := truth(true), truth(false)
	together(t, yes, yes, yes, single(yes))
	together(t, no, no, no, single(no))
	together(t, no, yes, yes, singles(yes, no)...)
	together(t, no, yes, yes, singles(no, yes)...)
	together(t, yes, yes, no, singles(yes, yes)...)
	together(t, yes, yes, yes, singles(yes, yes, yes)...)
	together(t, yes, yes, no, area(slices.Repeat([]api.Value{yes}, 200)...))
	together(t, no, yes, yes, area(append(slices.Repeat([]api.Value{yes}, 199), no)...))
}

// P20.1: of areas truths and numbers count; Blanks and texts are passed over.
func TestTruthsOfAreas(t *testing.T) {
	yes, no := truth(true), truth(false)
	passed := []api.Value{blank, text(""), text("a"), text("TRUE"), text("FALSE"), text("1"), text("0")}
	for _, v := range passed {
		wrong(t, api.FaultValue, area(v))
		wrong(t, api.FaultValue, area(v, v), area(v))
		together(t, yes, yes, yes, area(v, yes, v))
		together(t, no, no, no, area(no, v))
		together(t, yes, yes, yes, area(v), single(yes), area(v))
		together(t, no, no, no, single(no), area(v, v))
	}
	wrong(t, api.FaultValue, area(passed...), area(passed...))
	together(t, yes, yes, yes, area(num(7, 1)))
	together(t, yes, yes, yes, area(num(-1, 3)))
	together(t, no, no, no, area(num(0, 1)))
	together(t, no, yes, no, area(num(0, 1), num(2, 1), yes, no))
	together(t, no, yes, yes, area(append(passed, num(0, 1), num(2, 1))...))
}

// P20.1: what is no area counts as a truth, or is a fault.
func TestTruthsOfOthers(t *testing.T) {
	yes, no := truth(true), truth(false)
	for _, v := range samples() {
		b, n := asTruth(v)
		if n != 0 {
			wrong(t, n, single(v))
			wrong(t, n, singles(yes, v)...)
			wrong(t, n, singles(no, v, yes)...)
			continue
		}
		together(t, truth(b), truth(b), truth(b), single(v))
		together(t, truth(b), yes, truth(!b), singles(yes, v)...)
		together(t, no, truth(b), truth(b), singles(v, no)...)
	}
}

// P20.1: the first fault is the answer, also of a value of an area that is no truth and no number, whatever the truths are.
func TestFirstFault(t *testing.T) {
	for n := 1; n <= 7; n++ {
		first, later := fault(n), fault(8-n)
		for _, v := range []api.Value{truth(true), truth(false), num(0, 1), blank} {
			wrong(t, n, area(first))
			wrong(t, n, area(v, first, later))
			wrong(t, n, area(v, text("a"), first), single(later))
			wrong(t, n, single(v), area(blank, first), area(later))
			wrong(t, n, single(first), single(text("a")))
			wrong(t, n, area(text("a"), first), single(text("a")))
			wrong(t, api.FaultValue, single(text("a")), single(first))
			wrong(t, api.FaultValue, single(v), single(text("")), area(first))
		}
		for at := range 20 {
			l := slices.Repeat(singles(truth(false)), 20)
			l[at] = area(truth(true), first)
			wrong(t, n, l...)
		}
	}
}

// P20.2: NOT of NOT of a truth is it; OR of two is NOT of AND of their opposites.
func TestOpposites(t *testing.T) {
	not := func(v api.Value) api.Value { return flog.Do("NOT", single(v)) }
	for _, a := range []bool{true, false} {
		if got := not(not(truth(a))); got != truth(a) {
			t.Errorf("NOT of NOT of %t: %#v", a, got)
		}
		for _, b := range []bool{true, false} {
			both := flog.Do("AND", singles(not(truth(a)), not(truth(b)))...)
			want(t, not(both), "OR", singles(truth(a), truth(b))...)
			want(t, not(both), "OR", area(truth(a), truth(b)))
		}
	}
}

// P20.1: the arguments and their values stay as they were.
func TestArgumentsStay(t *testing.T) {
	for _, f := range table {
		made := func() []api.Arg {
			return []api.Arg{single(num(2, 1)), area(num(1, 1)), single(text("a")), area(num(2, 1), blank)}
		}
		l, was := made(), made()
		flog.Do(f.name, l[:min(f.most, 4)]...)
		flog.Do(f.name, l[:f.least]...)
		for i := range l {
			if !slices.Equal(l[i].Vals, was[i].Vals) || l[i].Cols != was[i].Cols || l[i].Area != was[i].Area {
				t.Errorf("%s changes its arguments: %#v", f.name, l[i])
			}
		}
	}
}
