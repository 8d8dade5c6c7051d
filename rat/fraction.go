package rat

import (
	"abacist/api"
	"abacist/whole"
)

// fraction is num by den, that others than 1 may divide both, with any number of bits: what operations make on their way.
type fraction struct{ num, den api.Whole }

// fractionOf is the number that r counts as.
func fractionOf(r api.Rat) fraction {
	r = counted(r)
	return fraction{whole.Make(r.Neg, r.Num), whole.Make(false, r.Den)}
}

func (a fraction) plus(b fraction) fraction {
	return fraction{whole.Add(whole.Mul(a.num, b.den), whole.Mul(b.num, a.den)), whole.Mul(a.den, b.den)}
}

func (a fraction) minus(b fraction) fraction {
	return a.plus(fraction{whole.Neg(b.num), b.den})
}

func (a fraction) times(b fraction) fraction {
	return fraction{whole.Mul(a.num, b.num), whole.Mul(a.den, b.den)}
}

// by has the denominator 0, if b is 0: Make tells that error.
func (a fraction) by(b fraction) fraction {
	return a.times(fraction{b.den, b.num})
}
