// Package calls has what the packages of functions share: functions by their names, and arguments.
package calls

import (
	"abacist/api"
	"abacist/value"
)

// Function is a function's name, and how many arguments it has, at least and at most.
type Function struct {
	Name        string
	Least, Most int
}

// Names are the functions' names, in their order.
func Names(functions []Function) []string {
	var l []string
	for _, f := range functions {
		l = append(l, f.Name)
	}
	return l
}

// Fault is FaultName, if no function has that name; FaultValue, if it has fewer or more arguments, or one of them can not be; else 0.
func Fault(functions []Function, name string, l []api.Arg) int {
	for _, f := range functions {
		if f.Name == name {
			return faultOf(f, l)
		}
	}
	return api.FaultName
}

// Right is whether an argument can be: values that can be, 1 to MaxArea, in full rows, and one alone, if it is no area.
func Right(a api.Arg) bool {
	switch {
	case len(a.Vals) == 0, len(a.Vals) > api.MaxArea:
		return false
	case a.Cols < 1, len(a.Vals)%a.Cols != 0:
		return false
	case !a.Area && len(a.Vals) > 1:
		return false
	}
	for _, v := range a.Vals {
		if !value.Right(v) {
			return false
		}
	}
	return true
}

// One is the one value of an argument that can be, and true; false, if it has more.
func One(a api.Arg) (api.Value, bool) {
	if len(a.Vals) != 1 {
		return api.Value{}, false
	}
	return a.Vals[0], true
}

// faultOf is FaultValue, if a function has fewer or more arguments, or one of them can not be; else 0.
func faultOf(f Function, l []api.Arg) int {
	if len(l) < f.Least || len(l) > f.Most {
		return api.FaultValue
	}
	for _, a := range l {
		if !Right(a) {
			return api.FaultValue
		}
	}
	return 0
}
