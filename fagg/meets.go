package fagg

import (
	"iter"
	"slices"
	"strings"

	"abacist/api"
	"abacist/calls"
	"abacist/coerce"
	"abacist/numtext"
	"abacist/value"
)

// signs are what conditions begin with: those that begin with another one are ahead of it.
var signs = [...]string{"<=", ">=", "<>", "<", ">", "="}

// test is a condition, parted: a sign, and what values are held against.
type test struct {
	sign    string
	against api.Value
}

// Meets is whether v meets a condition; false, if one of them can not be, or has a fault.
func Meets(v, condition api.Value) bool {
	return value.Right(condition) && testOf(condition).met(v)
}

// testOf is a condition that can be, parted.
func testOf(condition api.Value) test {
	// The empty text stands for itself: only behind a sign it is Blank.
	if condition.Kind != api.Text || condition.Text == "" {
		return test{"=", condition}
	}
	for _, sign := range signs {
		if behind, ok := strings.CutPrefix(condition.Text, sign); ok {
			return test{sign, read(behind)}
		}
	}
	return test{"=", read(condition.Text)}
}

// read is what stands behind a sign: Blank, a number, or a text.
func read(s string) api.Value {
	if s == "" {
		return api.Value{}
	}
	if r, e := numtext.Parse(s); e == api.OK {
		return value.Num(r)
	}
	return value.Text(s)
}

// met is whether v meets the test.
func (t test) met(v api.Value) bool {
	order, fault := coerce.Cmp(v, t.against)
	switch {
	case fault != 0:
		return false
	case v.Kind != t.against.Kind:
		return t.sign == "<>"
	}
	switch t.sign {
	case "<=":
		return order <= 0
	case ">=":
		return order >= 0
	case "<>":
		return order != 0
	case "<":
		return order < 0
	case ">":
		return order > 0
	}
	return order == 0
}

// places goes over those places of an argument whose values meet a condition that can be.
func places(a api.Arg, condition api.Value) iter.Seq[int] {
	t := testOf(condition)
	return func(yield func(place int) bool) {
		for place, v := range a.Vals {
			if t.met(v) && !yield(place) {
				return
			}
		}
	}
}

// meeting is how many values of an argument meet a condition; FaultValue, if that has more than one value.
func meeting(a, condition api.Arg) api.Value {
	c, ok := calls.One(condition)
	if !ok {
		return value.Fault(api.FaultValue)
	}
	return count(len(slices.Collect(places(a, c))))
}

// chosen is the sum, of SUMIF, or the average, of AVERAGEIF, of the numbers at those places where the first argument meets the second one: those of the third one, or of the first one, if there is none.
func chosen(name string, l []api.Arg) api.Value {
	from := l[0]
	if len(l) == 3 {
		from = l[2]
	}
	c, ok := calls.One(l[1])
	if !ok || !alike(l[0], from) {
		return value.Fault(api.FaultValue)
	}
	var rs []api.Rat
	for place := range places(l[0], c) {
		if v := from.Vals[place]; v.Kind == api.Number {
			rs = append(rs, v.Num)
		}
	}
	if name == "SUMIF" {
		return value.Of(sum(rs))
	}
	return value.Of(average(rs))
}
