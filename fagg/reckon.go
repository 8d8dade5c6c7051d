package fagg

import (
	"slices"

	"abacist/api"
	"abacist/calls"
	"abacist/coerce"
	"abacist/rat"
	"abacist/round"
	"abacist/value"
)

// ofNumbers is a function of all numbers of some arguments.
func ofNumbers(name string, l []api.Arg) api.Value {
	rs, fault := gathered(l...)
	if fault != 0 {
		return value.Fault(fault)
	}
	switch name {
	case "SUM":
		return value.Of(sum(rs))
	case "PRODUCT":
		return value.Of(folded(rat.Mul, rs))
	case "SUMSQ":
		return value.Of(squares(rs))
	case "MIN":
		return value.Of(folded(lesser, rs))
	case "MAX":
		return value.Of(folded(greater, rs))
	case "AVERAGE":
		return value.Of(average(rs))
	case "MEDIAN":
		return value.Of(median(rs))
	case "VAR":
		return value.Of(variance(rs, len(rs)-1))
	case "VARP":
		return value.Of(variance(rs, len(rs)))
	}
	return value.Fault(api.FaultName)
}

// folded is what both makes of the numbers, from the first one on; 0 of none.
func folded(both func(a, b api.Rat) (api.Rat, api.Errno), l []api.Rat) (api.Rat, api.Errno) {
	if len(l) == 0 {
		return rat.Of(0), api.OK
	}
	made, e := l[0], api.OK
	for _, r := range l[1:] {
		if made, e = both(made, r); e != api.OK {
			return api.Rat{}, e
		}
	}
	return made, api.OK
}

// sum is the numbers' sum.
func sum(l []api.Rat) (api.Rat, api.Errno) { return folded(rat.Add, l) }

// squares is the sum of the numbers' squares.
func squares(l []api.Rat) (api.Rat, api.Errno) {
	areas, e := each(l, func(r api.Rat) (api.Rat, api.Errno) { return rat.Mul(r, r) })
	if e != api.OK {
		return api.Rat{}, e
	}
	return sum(areas)
}

// each is what made makes of each number.
func each(l []api.Rat, made func(r api.Rat) (api.Rat, api.Errno)) ([]api.Rat, api.Errno) {
	var rs []api.Rat
	for _, r := range l {
		m, e := made(r)
		if e != api.OK {
			return nil, e
		}
		rs = append(rs, m)
	}
	return rs, api.OK
}

// lesser is the lesser one of two numbers.
func lesser(a, b api.Rat) (api.Rat, api.Errno) {
	if rat.Cmp(b, a) < 0 {
		return b, api.OK
	}
	return a, api.OK
}

// greater is the greater one of two numbers.
func greater(a, b api.Rat) (api.Rat, api.Errno) {
	if rat.Cmp(b, a) > 0 {
		return b, api.OK
	}
	return a, api.OK
}

// rising are the numbers, the least one first.
func rising(l []api.Rat) []api.Rat {
	sorted := slices.Clone(l)
	slices.SortFunc(sorted, rat.Cmp)
	return sorted
}

// average is the sum by how many numbers there are; ErrZero, if there are none.
func average(l []api.Rat) (api.Rat, api.Errno) {
	all, e := sum(l)
	if e != api.OK {
		return api.Rat{}, e
	}
	return rat.Div(all, rat.Of(int64(len(l))))
}

// median is the number in the middle, or the half of the two there; ErrArg, if there are none.
func median(l []api.Rat) (api.Rat, api.Errno) {
	if len(l) == 0 {
		return api.Rat{}, api.ErrArg
	}
	sorted, middle := rising(l), len(l)/2
	if len(l)%2 == 1 {
		return sorted[middle], api.OK
	}
	return average(sorted[middle-1 : middle+1])
}

// variance is the sum of the squares of the differences to the average, by n; ErrZero, if n is 0, or there are no numbers.
func variance(l []api.Rat, n int) (api.Rat, api.Errno) {
	// Of no numbers there is no average: n is not asked.
	middle, e := average(l)
	if e != api.OK {
		return api.Rat{}, e
	}
	differences, e := each(l, func(r api.Rat) (api.Rat, api.Errno) { return rat.Sub(r, middle) })
	if e != api.OK {
		return api.Rat{}, e
	}
	all, e := squares(differences)
	if e != api.OK {
		return api.Rat{}, e
	}
	return rat.Div(all, rat.Of(int64(n)))
}

// one is an argument's one value as a number; FaultValue, if it has more.
func one(a api.Arg) (api.Rat, int) { return coerce.Num(calls.Value(a)) }

// placed is the number of list that is so many from its upper end, of LARGE, or from its lower one, of SMALL.
func placed(name string, list, place api.Arg) api.Value {
	rs, fault := gathered(list)
	if fault != 0 {
		return value.Fault(fault)
	}
	at, fault := one(place)
	if fault != 0 {
		return value.Fault(fault)
	}
	k, ok := round.Small(round.Trunc(at))
	if !ok || k < 1 || k > int64(len(rs)) {
		return value.Fault(api.FaultNum)
	}
	sorted := rising(rs)
	if name == "LARGE" {
		slices.Reverse(sorted)
	}
	return value.Num(sorted[k-1])
}

// rank is how many numbers of list are above a number, and one more; FaultNA, if none is it.
func rank(of, list api.Arg) api.Value {
	x, fault := one(of)
	if fault != 0 {
		return value.Fault(fault)
	}
	rs, fault := gathered(list)
	if fault != 0 {
		return value.Fault(fault)
	}
	above, found := 0, false
	for _, r := range rs {
		switch rat.Cmp(r, x) {
		case 0:
			found = true
		case 1:
			above++
		}
	}
	if !found {
		return value.Fault(api.FaultNA)
	}
	return count(above + 1)
}

// products is the sum of the products of values at the same place; FaultValue, if the arguments are not alike.
func products(l []api.Arg) api.Value {
	var made []api.Rat
	for _, a := range l {
		if !alike(a, l[0]) {
			return value.Fault(api.FaultValue)
		}
	}
	for place := range l[0].Vals {
		product, e := folded(rat.Mul, across(l, place))
		if e != api.OK {
			return value.Of(product, e)
		}
		made = append(made, product)
	}
	return value.Of(sum(made))
}

// across are the numbers that the arguments have at a place; what is none counts as 0.
func across(l []api.Arg, place int) []api.Rat {
	var rs []api.Rat
	for _, a := range l {
		r := rat.Of(0)
		if v := a.Vals[place]; v.Kind == api.Number {
			r = v.Num
		}
		rs = append(rs, r)
	}
	return rs
}

// alike is whether both have as many values and columns.
func alike(a, b api.Arg) bool { return len(a.Vals) == len(b.Vals) && a.Cols == b.Cols }
