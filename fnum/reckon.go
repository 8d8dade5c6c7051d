package fnum

import (
	"abacist/api"
	"abacist/divide"
	"abacist/nat"
	"abacist/rat"
	"abacist/round"
	"abacist/whole"
)

const (
	one         = "\x01"  // the natural 1
	mostCount   = 1000000 // of a count's amount
	mostFactors = 60      // of a product of 1 to a count
	mostOf      = 200     // things of which some are chosen
)

// count is x, and true, if it is a count; else 0 and false.
func count(x api.Rat) (int, bool) {
	n, ok := round.Small(x)
	if !ok || n < -mostCount || n > mostCount {
		return 0, false
	}
	return int(n), true
}

// amount is x's whole part, and true, if it is a count from 0 to most; else 0 and false.
func amount(x api.Rat, most int) (int, bool) {
	n, ok := count(round.Trunc(x))
	if !ok || n < 0 || n > most {
		return 0, false
	}
	return n, true
}

// natural is the number of a natural; ErrNum, if it has too many bits.
func natural(a string) (api.Rat, api.Errno) {
	return rat.Make(whole.Make(false, a), whole.Of(1))
}

// root is x's root; ErrNum, if it has none.
func root(x api.Rat) (api.Rat, api.Errno) {
	side, ok := round.Root(x)
	if !ok {
		return api.Rat{}, api.ErrNum
	}
	return side, api.OK
}

// placed is x, rounded to so many places.
func placed(rounded func(r api.Rat, places int) (api.Rat, api.Errno), x, places api.Rat) (api.Rat, api.Errno) {
	n, ok := count(places)
	if !ok {
		return api.Rat{}, api.ErrArg
	}
	return rounded(x, n)
}

// multiple is step so many times as x by step, rounded, tells; 0 of a step of 0.
func multiple(rounded func(r api.Rat) (api.Rat, api.Errno), x, step api.Rat) (api.Rat, api.Errno) {
	if rat.Sign(step) == 0 {
		return rat.Of(0), api.OK
	}
	often, e := rat.Div(x, step)
	if e != api.OK {
		return api.Rat{}, e
	}
	times, e := rounded(often)
	if e != api.OK {
		return api.Rat{}, e
	}
	return rat.Mul(step, times)
}

// quotient is the whole part of x by y.
func quotient(x, y api.Rat) (api.Rat, api.Errno) {
	often, e := rat.Div(x, y)
	if e != api.OK {
		return api.Rat{}, e
	}
	return round.Trunc(often), api.OK
}

// outward is the next whole number, away from 0, if x is none such, that is odd, or even.
func outward(x api.Rat, toOdd bool) (api.Rat, api.Errno) {
	n, e := round.Up(x, 0)
	if e != api.OK || odd(n) == toOdd {
		return n, e
	}
	step := rat.Of(1)
	if rat.Sign(x) < 0 {
		step = rat.Neg(step)
	}
	return rat.Add(n, step)
}

// odd is whether a whole number is odd.
func odd(n api.Rat) bool {
	last := len(n.Num) - 1
	return last >= 0 && n.Num[last]%2 == 1
}

// product is the product of 1 to x's whole part.
func product(x api.Rat) (api.Rat, api.Errno) {
	n, ok := amount(x, mostFactors)
	if !ok {
		return api.Rat{}, api.ErrArg
	}
	made := one
	for i := range n {
		made = nat.Mul(made, nat.Of(uint64(i+1)))
	}
	return natural(made)
}

// choices is how many ways there are to choose k of n things.
func choices(n, k api.Rat) (api.Rat, api.Errno) {
	things, ok := amount(n, mostOf)
	chosen, fits := amount(k, things)
	if !ok || !fits {
		return api.Rat{}, api.ErrArg
	}
	ways := one
	for i := range chosen {
		// Each choice of one more is reached once by every thing in it that may have come last: nothing is left.
		ways, _, _ = divide.DivMod(nat.Mul(ways, nat.Of(uint64(things-i))), nat.Of(uint64(i+1)))
	}
	return natural(ways)
}

// divisor is the greatest common divisor of the numbers' whole parts.
func divisor(l []api.Rat) (api.Rat, api.Errno) {
	// The divisor of 0 and a number is that number.
	return folded("", divide.Gcd, l)
}

// dividend is the least common multiple of the numbers' whole parts.
func dividend(l []api.Rat) (api.Rat, api.Errno) {
	return folded(one, func(a, b string) string {
		// Of two 0 there is no division, and 0 is told, as of one.
		often, _, _ := divide.DivMod(a, divide.Gcd(a, b))
		return nat.Mul(often, b)
	}, l)
}

// folded is what both makes of what it made ahead, at first start, and of each number's whole part.
func folded(start string, both func(a, b string) string, l []api.Rat) (api.Rat, api.Errno) {
	made := start
	for _, x := range l {
		n, ok := amount(x, mostCount)
		if !ok {
			return api.Rat{}, api.ErrArg
		}
		made = both(made, nat.Of(uint64(n)))
	}
	return natural(made)
}
