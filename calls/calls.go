// Package calls has what the packages of functions share: functions by their names, arguments, and counts.
package calls

import (
	"abacist/api"
	"abacist/coerce"
	"abacist/round"
	"abacist/value"
)

// mostCount is the greatest amount of a count.
const mostCount = 1000000

// Function is a function's name, and how many values, or arguments, it has, at least and at most.
type Function struct {
	Name        string
	Least, Most int
}

// Names are the functions' names, in their order.
func Names(functions []Function) []string {
	l := make([]string, 0, len(functions))
	for _, f := range functions {
		l = append(l, f.Name)
	}
	return l
}

// Fault is FaultName, if no function has that name; FaultValue, if it has fewer or more arguments, or one of them can not be; else 0.
func Fault(functions []Function, name string, l []api.Arg) int {
	if fault := Many(functions, name, len(l)); fault != 0 {
		return fault
	}
	for _, a := range l {
		if !Right(a) {
			return api.FaultValue
		}
	}
	return 0
}

// Many is FaultName, if no function has that name; FaultValue, if n values, or arguments, are too few or too many for it; else 0.
func Many(functions []Function, name string, n int) int {
	for _, f := range functions {
		switch {
		case f.Name != name:
			continue
		case n < f.Least, n > f.Most:
			return api.FaultValue
		}
		return 0
	}
	return api.FaultName
}

// Right is whether an argument can be: values that can be, 1 to MaxArea, in full rows, and one alone, if it is no area.
func Right(a api.Arg) bool {
	switch {
	case len(a.Vals) == 0, len(a.Vals) > api.MaxArea:
		return false
	case a.Cols < 1, len(a.Vals)%a.Cols != 0:
		return false
	case !a.Area && len(a.Vals) > 1:
		return false
	}
	for _, v := range a.Vals {
		if !value.Right(v) {
			return false
		}
	}
	return true
}

// One is the one value of an argument that can be, and true; false, if it has more.
func One(a api.Arg) (api.Value, bool) {
	if len(a.Vals) != 1 {
		return api.Value{}, false
	}
	return a.Vals[0], true
}

// Value is the one value of an argument that can be; FaultValue in place of more.
func Value(a api.Arg) api.Value {
	v, ok := One(a)
	if !ok {
		return value.Fault(api.FaultValue)
	}
	return v
}

// Count is the whole part of what v is as a number; or a fault: v's own, or FaultValue of a number that is no count.
func Count(v api.Value) (n, fault int) {
	r, fault := coerce.Num(v)
	if fault != 0 {
		return 0, fault
	}
	whole, ok := round.Small(round.Trunc(r))
	if !ok || whole < -mostCount || whole > mostCount {
		return 0, api.FaultValue
	}
	return int(whole), 0
}
