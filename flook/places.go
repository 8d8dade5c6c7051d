package flook

import (
	"abacist/api"
	"abacist/coerce"
	"abacist/value"
)

// How a place is looked for: any number below 0 as below, any above 0 as near.
const (
	below = -1
	exact = 0
	near  = 1
)

// index is INDEX: a value by its row and its column.
func index(l []api.Arg) api.Value {
	a := l[0]
	row, fault := count(l, 1, 1)
	if fault != 0 {
		return value.Fault(fault)
	}
	col, fault := count(l, 2, 1)
	if fault != 0 {
		return value.Fault(fault)
	}
	if len(l) == 2 && rows(a) == 1 {
		row, col = 1, row
	}
	v, ok := cell(a, row, col)
	if !ok {
		return value.Fault(api.FaultRef)
	}
	return found(v)
}

// match is MATCH: the place of what is looked for.
func match(l []api.Arg) api.Value {
	x, fault := sought(l[0])
	if fault != 0 {
		return value.Fault(fault)
	}
	way, fault := count(l, 2, near)
	if fault != 0 {
		return value.Fault(fault)
	}
	place := placeInLine(x, l[1], way)
	if place == 0 {
		return value.Fault(api.FaultNA)
	}
	return number(place)
}

// beside is VLOOKUP in a: the value in column k, where what is looked for is in the first one.
func beside(l []api.Arg, a api.Arg) api.Value {
	x, fault := sought(l[0])
	if fault != 0 {
		return value.Fault(fault)
	}
	k, fault := count(l, 2, 1)
	if fault != 0 {
		return value.Fault(fault)
	}
	roughly, fault := truth(l, 3, true)
	if fault != 0 {
		return value.Fault(fault)
	}
	if k < 1 || k > a.Cols {
		return value.Fault(api.FaultRef)
	}
	way := exact
	if roughly {
		way = near
	}
	v, ok := cell(a, placeOf(x, column(a, 1), way), k)
	if !ok {
		return value.Fault(api.FaultNA)
	}
	return found(v)
}

// lookup is LOOKUP: the value at the place of what is looked for, of another argument, if there is one.
func lookup(l []api.Arg) api.Value {
	x, fault := sought(l[0])
	if fault != 0 {
		return value.Fault(fault)
	}
	from := l[len(l)-1].Vals
	place := placeInLine(x, l[1], near)
	if place == 0 || place > len(from) {
		return value.Fault(api.FaultNA)
	}
	return found(from[place-1])
}

// placeInLine is the place of x in an argument of one row, or one column; 0, if there is none, or it has several of both.
func placeInLine(x api.Value, a api.Arg, way int) int {
	if a.Cols > 1 && rows(a) > 1 {
		return 0
	}
	return placeOf(x, a.Vals, way)
}

// placeOf is the place of x among some values, from 1 on; 0, if there is none. x is no Blank and no fault: values of other kinds are passed over.
func placeOf(x api.Value, l []api.Value, way int) int {
	place := 0
look:
	for i, v := range l {
		if v.Kind != x.Kind {
			continue
		}
		order, _ := coerce.Cmp(v, x)
		switch {
		case way >= near && order > 0, way <= below && order < 0:
			break look
		case way != exact:
			place = i + 1
		case order == 0:
			place = i + 1
			break look
		}
	}
	return place
}

// column are an argument's values in a column that it has.
func column(a api.Arg, col int) []api.Value {
	var l []api.Value
	for row := range rows(a) {
		l = append(l, a.Vals[row*a.Cols+col-1])
	}
	return l
}

// turned is an argument with its columns as rows.
func turned(a api.Arg) api.Arg {
	t := api.Arg{Cols: rows(a)}
	for col := range a.Cols {
		t.Vals = append(t.Vals, column(a, col+1)...)
	}
	return t
}
