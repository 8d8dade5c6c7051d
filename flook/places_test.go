package flook_test

import (
	"cmp"
	"math/big"
	"slices"
	"testing"

	"abacist/api"
	"abacist/flook"
)

// rank tells what order a value of its kind has: numbers by a float, of numbers that tests take as these are.
func rank(v api.Value) float64 {
	switch {
	case v.Kind == api.Number:
		x, _ := new(big.Rat).SetFrac(new(big.Int).SetBytes([]byte(v.Num.Num)), new(big.Int).SetBytes([]byte(v.Num.Den))).Float64()
		if v.Num.Neg {
			return -x
		}
		return x
	case v.Truth:
		return 1
	}
	return 0
}

// order is -1, 0 or 1, as a is below, as great as, or above b, that has its kind.
func order(a, b api.Value) int {
	if a.Kind == api.Text {
		return cmp.Compare(a.Text, b.Text)
	}
	return cmp.Compare(rank(a), rank(b))
}

// placed is the place of x: values of its kind are held against it, the others have no order at all.
func placed(x api.Value, l []api.Value, m int) int {
	if x == blank {
		x = n(0)
	}
	var places, orders []int
	for i, v := range l {
		if v.Kind == x.Kind {
			places, orders = append(places, i+1), append(orders, order(v, x))
		}
	}
	if m == 0 {
		if at := slices.Index(orders, 0); at >= 0 {
			return places[at]
		}
		return 0
	}
	ahead := slices.Index(orders, max(-1, min(m, 1)))
	if ahead < 0 {
		ahead = len(orders)
	}
	if ahead == 0 {
		return 0
	}
	return places[ahead-1]
}

// asPlace is a place as a value.
func asPlace(place int) api.Value {
	if place == 0 {
		return fault(api.FaultNA)
	}
	return n(place)
}

// kinds are values of all kinds: what is looked for, and what it is looked for among.
func kinds() []api.Value {
	return []api.Value{blank, n(0), n(1), n(2), text("a"), text("b"), truth(false), truth(true), fault(6)}
}

// lists are all lists of some values, of as many as are asked.
func lists(of []api.Value, many int) [][]api.Value {
	if many == 0 {
		return [][]api.Value{nil}
	}
	var all [][]api.Value
	for _, l := range lists(of, many-1) {
		for _, v := range of {
			all = append(all, append(slices.Clone(l), v))
		}
	}
	return all
}

// P22.1: MATCH of all short lists of values of all kinds, in a row and in a column.
func TestMatch(t *testing.T) {
	for many := 1; many <= 4; many++ {
		for _, l := range lists(kinds(), many) {
			for _, x := range kinds() {
				for m := -1; m <= 1; m++ {
					answer := asPlace(placed(x, l, m))
					if x.Kind == api.Fault {
						answer = x
					}
					a := column(l...)
					if len(l)%2 == 0 {
						a = row(l...)
					}
					want(t, answer, "MATCH", single(x), a, single(n(m)))
					if m == 1 {
						want(t, answer, "MATCH", column(x), a)
					}
				}
			}
		}
	}
}

// P22.1: MATCH in lists in order, and with several that are equal.
func TestMatchInOrder(t *testing.T) {
	rising, falling := column(nums(1, 2, 2, 4, 7)...), row(nums(7, 4, 2, 2, 1)...)
	for x, places := range map[int][4]int{0: {0, 0, 5, 0}, 1: {1, 1, 5, 5}, 2: {3, 2, 4, 3}, 3: {3, 0, 2, 0}, 4: {4, 4, 2, 2}, 5: {4, 0, 1, 0}, 7: {5, 5, 1, 1}, 9: {5, 0, 0, 0}} {
		for i, m := range []int{1, 0} {
			want(t, asPlace(places[i]), "MATCH", single(n(x)), rising, single(n(m)))
		}
		for i, m := range []int{-1, 0} {
			want(t, asPlace(places[2+i]), "MATCH", single(n(x)), falling, single(n(m)))
		}
	}
	want(t, n(2), "MATCH", single(n(3)), column(nums(1, 2, 4)...))
	want(t, n(4), "MATCH", single(text("b")), column(text("a"), n(9), fault(1), text("b"), blank, text("c"), text("b")))
	want(t, n(6), "MATCH", single(n(3)), column(blank, text("a"), n(1), fault(7), blank, n(2), text("z"), n(4), n(3)))
	want(t, n(6), "MATCH", single(num(1, 3)), column(n(0), num(1, 4), blank, num(1, 4), text("1/3"), num(1, 3), truth(true), num(1, 2)))
	want(t, fault(6), "MATCH", single(text("A")), column(text("a")), single(n(0)))
	want(t, fault(6), "MATCH", single(text("1")), column(n(1)), single(n(0)))
	want(t, n(200), "MATCH", single(n(5)), column(append(slices.Repeat(nums(1), 199), n(5))...), single(n(0)))
	want(t, n(200), "MATCH", single(n(5)), row(slices.Repeat(nums(5), 200)...))
}

// P22.1: of a Blank x a 0 is found, a Blank not.
func TestMatchOfBlank(t *testing.T) {
	for m := -1; m <= 1; m++ {
		want(t, fault(6), "MATCH", single(blank), column(blank, blank, text(""), truth(false)), single(n(m)))
		want(t, n(3), "MATCH", single(blank), column(blank, text(""), n(0)), single(n(m)))
		want(t, n(3), "MATCH", single(n(0)), column(blank, text(""), n(0)), single(n(m)))
		want(t, fault(6), "MATCH", single(text("")), column(blank, n(0)), single(n(m)))
		want(t, fault(6), "MATCH", single(truth(false)), column(blank, n(0)), single(n(m)))
	}
}

// P22.1: MATCH: how it is looked for is a count, of which the sign matters.
func TestMatchWays(t *testing.T) {
	a := column(nums(3, 1, 2, 2, 3, 1, 4)...)
	for m, place := range map[api.Value]int{n(1): 0, n(2): 0, n(1000000): 0, num(2000001, 2): 0, num(3, 2): 0, truth(true): 0, text("7"): 0, n(0): 3, num(1, 2): 3, num(-1, 2): 3, num(99, 100): 3, num(-99, 100): 3, blank: 3, truth(false): 3, text("0"): 3, n(-1): 1, n(-2): 1, n(-1000000): 1, num(-2000001, 2): 1, num(-3, 2): 1, text("-1"): 1} {
		want(t, asPlace(place), "MATCH", single(n(2)), a, single(m))
		want(t, asPlace(place), "MATCH", column(n(2)), a, row(m))
	}
	want(t, asPlace(0), "MATCH", single(n(2)), a)
}

// P22.1: MATCH in several rows and columns finds nothing; in one of both, or in a single value, it does.
func TestMatchShapes(t *testing.T) {
	for rows := 1; rows <= 4; rows++ {
		for cols := 1; cols <= 4; cols++ {
			for m := -1; m <= 1; m++ {
				answer := n(1)
				if m != 0 {
					answer = n(rows * cols)
				}
				if rows > 1 && cols > 1 {
					answer = fault(api.FaultNA)
				}
				want(t, answer, "MATCH", single(n(5)), area(cols, slices.Repeat(nums(5), rows*cols)...), single(n(m)))
			}
		}
	}
	want(t, n(1), "MATCH", single(n(5)), single(n(5)))
	want(t, fault(6), "MATCH", single(n(4)), single(n(5)))
	want(t, n(1), "MATCH", single(n(6)), single(n(5)))
}

// P22.2: INDEX of what MATCH with 0 tells, in one column, is equal to what was looked for.
func TestIndexOfMatch(t *testing.T) {
	for many := 1; many <= 4; many++ {
		for _, l := range lists(kinds(), many) {
			for _, x := range kinds() {
				place := flook.Do("MATCH", here, single(x), column(l...), single(n(0)))
				if place.Kind != api.Fault {
					want(t, answered(x), "INDEX", column(l...), single(place))
				}
			}
		}
	}
}

// looked is what VLOOKUP tells of x, in rows of two values, of which the first ones are the keys.
func looked(x api.Value, keys, others []api.Value, k, m int) api.Value {
	place := placed(x, keys, m)
	switch {
	case k < 1, k > 2:
		return fault(api.FaultRef)
	case place == 0:
		return fault(api.FaultNA)
	case k == 1:
		return answered(keys[place-1])
	}
	return answered(others[place-1])
}

// P22.1: VLOOKUP and HLOOKUP of all short lists, in both columns and rows, and beside them.
func TestLookedUp(t *testing.T) {
	others := []api.Value{text("z"), blank, fault(4)}
	for many := 1; many <= 3; many++ {
		for _, keys := range lists(kinds(), many) {
			var vs []api.Value
			for i, key := range keys {
				vs = append(vs, key, others[i])
			}
			down, across := area(2, vs...), area(many, append(slices.Clone(keys), others[:many]...)...)
			for _, x := range kinds()[:8] {
				for k := 0; k <= 3; k++ {
					for m := range 2 {
						answer, l := looked(x, keys, others, k, m), []api.Arg{single(x), down, single(n(k)), single(truth(m == 1))}
						want(t, answer, "VLOOKUP", l...)
						l[1] = across
						want(t, answer, "HLOOKUP", l...)
						if m == 1 {
							want(t, answer, "HLOOKUP", l[:3]...)
							l[1] = down
							want(t, answer, "VLOOKUP", l[:3]...)
						}
					}
				}
			}
		}
	}
}

// P22.1: VLOOKUP and HLOOKUP in areas of several of each: the value is that of the place's row, or column.
func TestLookedUpInGreatAreas(t *testing.T) {
	for rows := 1; rows <= 5; rows++ {
		for cols := 1; cols <= 5; cols++ {
			var vs []api.Value
			for r := range rows {
				for c := range cols {
					vs = append(vs, n(10*r+c))
				}
			}
			a := area(cols, vs...)
			for r := range rows {
				for c := range cols {
					want(t, n(10*r+c), "VLOOKUP", single(n(10*r)), a, single(n(c+1)), single(truth(false)))
					want(t, n(10*r+c), "HLOOKUP", single(n(c)), a, single(n(r+1)), single(truth(false)))
					want(t, n(10*r+c), "VLOOKUP", single(n(10*r+9)), a, single(n(c+1)))
					want(t, n(10*r+c), "HLOOKUP", single(num(int64(2*c+1), 2)), a, single(n(r+1)))
				}
				want(t, fault(3), "VLOOKUP", single(n(10*r)), a, single(n(cols+1)))
				want(t, fault(3), "VLOOKUP", single(n(10*r)), a, single(n(0)))
			}
			want(t, fault(3), "HLOOKUP", single(n(0)), a, single(n(rows+1)))
			want(t, fault(3), "HLOOKUP", single(n(0)), a, single(n(-1)))
		}
	}
	want(t, text("b"), "VLOOKUP", single(n(2)), area(2, n(1), text("a"), n(2), text("b")), single(n(2)))
	want(t, n(2), "VLOOKUP", single(n(2)), single(n(2)), single(n(1)))
	want(t, n(2), "HLOOKUP", single(n(3)), single(n(2)), single(n(1)))
	want(t, fault(3), "HLOOKUP", single(n(2)), single(n(2)), single(n(2)))
}

// P22.1: VLOOKUP and HLOOKUP: counts and truths as they are read.
func TestLookedUpReads(t *testing.T) {
	down, across := area(2, n(1), text("a"), n(3), text("b")), area(2, n(1), n(3), text("a"), text("b"))
	both := func(answer, x, k api.Value, roughly ...api.Value) {
		t.Helper()
		l := append([]api.Arg{single(x), down, row(k)}, singles(roughly...)...)
		want(t, answer, "VLOOKUP", l...)
		l[1] = across
		want(t, answer, "HLOOKUP", l...)
	}
	for _, k := range []api.Value{n(2), num(5, 2), num(299, 100), text("2"), text("5/2")} {
		both(text("b"), n(3), k)
	}
	for _, k := range []api.Value{num(1, 2), num(-1, 2), blank, truth(false), n(3), n(-1), n(1000000), n(-1000000), num(2000001, 2), num(-2000001, 2)} {
		both(fault(3), n(3), k)
		both(fault(3), n(0), k)
	}
	for _, v := range []api.Value{truth(true), n(1), n(-1), num(1, 2), text("TRUE")} {
		both(text("a"), n(2), n(2), v)
		both(n(3), n(3), truth(true), v)
	}
	for _, v := range []api.Value{truth(false), n(0), blank, text("FALSE")} {
		both(fault(6), n(2), n(2), v)
		both(text("b"), n(3), n(2), v)
	}
}

// noTruths are values that are no truths, beside their faults.
func noTruths() map[api.Value]int {
	l := map[api.Value]int{text(""): 2, text("a"): 2, text("true"): 2, text("1"): 2, text("0"): 2}
	for n := 1; n <= 7; n++ {
		l[fault(n)] = n
	}
	return l
}

// P22.1: which of several faults is told: x, the count, the truth, a k that there is not, no place.
func TestOrderOfFaults(t *testing.T) {
	type choice struct {
		a    api.Arg
		told int
	}
	xs := []choice{{single(n(1)), 0}, {single(n(0)), -1}, {single(fault(1)), 1}, {single(fault(6)), 6}, {many(), 2}, {column(fault(3), fault(3)), 2}}
	ks := []choice{{single(n(1)), 0}, {single(n(9)), -1}, {single(n(0)), -1}, {single(fault(4)), 4}, {single(text("a")), 2}, {single(n(1000001)), 2}, {many(), 2}, {column(fault(3), fault(3)), 2}}
	ts := []choice{{single(truth(true)), 0}, {single(truth(false)), 0}, {single(fault(5)), 5}, {single(fault(7)), 7}, {single(text("a")), 2}, {many(), 2}, {column(fault(3), fault(3)), 2}}
	for _, x := range xs {
		for _, k := range ks {
			for _, tr := range ts {
				answer := n(1)
				switch {
				case x.told > 0:
					answer = fault(x.told)
				case k.told > 0:
					answer = fault(k.told)
				case tr.told > 0:
					answer = fault(tr.told)
				case k.told < 0:
					answer = fault(3)
				case x.told < 0:
					answer = fault(6)
				}
				want(t, answer, "VLOOKUP", x.a, area(2, nums(1, 2, 3, 4)...), k.a, tr.a)
				want(t, answer, "HLOOKUP", x.a, area(2, nums(1, 2, 3, 4)...), k.a, tr.a)
			}
		}
	}
}

// P22.1: faults of x, of counts and of truths, each alone, and ahead of all that is behind it.
func TestLookingFaults(t *testing.T) {
	square, line := area(2, nums(1, 2, 3, 4)...), column(nums(1, 2)...)
	for wrong := 1; wrong <= 7; wrong++ {
		for _, x := range []api.Arg{single(fault(wrong)), column(fault(wrong))} {
			for _, a := range []api.Arg{square, line, column(fault(8 - wrong))} {
				want(t, fault(wrong), "MATCH", x, a)
				want(t, fault(wrong), "MATCH", x, a, single(fault(8-wrong)))
				want(t, fault(wrong), "MATCH", x, a, many())
				want(t, fault(wrong), "LOOKUP", x, a)
				want(t, fault(wrong), "LOOKUP", x, a, column(fault(8-wrong)))
				want(t, fault(wrong), "VLOOKUP", x, a, single(n(9)))
				want(t, fault(wrong), "HLOOKUP", x, a, single(n(9)), single(fault(8-wrong)))
			}
		}
	}
	for v, wrong := range noCounts() {
		for _, a := range []api.Arg{square, line} {
			want(t, fault(wrong), "MATCH", single(n(1)), a, single(v))
			want(t, fault(wrong), "MATCH", single(n(0)), a, column(v))
			for _, name := range []string{"VLOOKUP", "HLOOKUP"} {
				want(t, fault(wrong), name, single(n(1)), a, single(v))
				want(t, fault(wrong), name, single(n(1)), a, single(v), single(fault(5)))
				want(t, fault(wrong), name, single(n(0)), a, single(v), single(truth(true)))
			}
		}
	}
	for v, wrong := range noTruths() {
		for _, name := range []string{"VLOOKUP", "HLOOKUP"} {
			want(t, fault(wrong), name, single(n(1)), square, single(n(1)), single(v))
			want(t, fault(wrong), name, single(n(0)), square, single(n(9)), column(v))
		}
	}
	for _, name := range []string{"MATCH", "LOOKUP"} {
		want(t, fault(api.FaultValue), name, many(), line)
		want(t, fault(api.FaultValue), name, column(fault(1), fault(1)), square)
	}
	want(t, fault(api.FaultValue), "MATCH", single(n(1)), line, many())
	want(t, fault(api.FaultNA), "MATCH", single(n(1)), square)
}

// P22.1: LOOKUP of all short lists, in themselves and in others with fewer values, as many, and more.
func TestLookup(t *testing.T) {
	others := []api.Value{text("z"), blank, fault(4), truth(true), text("y"), n(9)}
	for many := 1; many <= 3; many++ {
		for _, l := range lists(kinds(), many) {
			a := row(l...)
			for _, x := range kinds()[:8] {
				place := placed(x, l, 1)
				answer := fault(api.FaultNA)
				if place > 0 {
					answer = answered(l[place-1])
				}
				want(t, answer, "LOOKUP", single(x), a)
				for _, cols := range []int{1, 2, 3} {
					for rows := 1; rows <= 2; rows++ {
						answer := fault(api.FaultNA)
						if place > 0 && place <= rows*cols {
							answer = answered(others[place-1])
						}
						want(t, answer, "LOOKUP", single(x), a, area(cols, others[:rows*cols]...))
					}
				}
			}
		}
	}
}

// P22.1: LOOKUP in several rows and columns finds nothing; b may have them.
func TestLookupShapes(t *testing.T) {
	square := area(2, nums(1, 2, 3, 4)...)
	want(t, fault(6), "LOOKUP", single(n(1)), square)
	want(t, fault(6), "LOOKUP", single(n(1)), square, column(nums(1, 2, 3, 4)...))
	for i := 1; i <= 4; i++ {
		want(t, n(i), "LOOKUP", single(n(i)), column(nums(1, 2, 3, 4)...), square)
	}
	want(t, n(4), "LOOKUP", single(n(9)), row(nums(1, 2, 4)...))
	want(t, n(5), "LOOKUP", single(n(9)), single(n(5)))
	want(t, fault(6), "LOOKUP", single(n(4)), single(n(5)))
	want(t, text("a"), "LOOKUP", column(n(5)), single(n(5)), single(text("a")))
	want(t, fault(3), "LOOKUP", single(n(1)), column(nums(1, 2)...), column(fault(3), fault(4)))
	want(t, n(1), "LOOKUP", single(n(1)), column(nums(1, 2)...), column(n(1), fault(4)))
}
