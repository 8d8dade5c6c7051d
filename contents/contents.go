// Package contents has what the packages share that tell formulas as they stand in cells.
package contents

import (
	"abacist/api"
	"abacist/print"
)

// Sign stands ahead of a formula in a cell.
const Sign = "="

// Formula is f as it stands in a cell. ErrForm, if f can not be; ErrLong, if that has more bytes than a formula may have.
func Formula(f api.Formula) (string, api.Errno) {
	text, e := print.Formula(f)
	if e != api.OK {
		return "", e
	}
	// print counts without the sign.
	if len(Sign)+len(text) > api.MaxFormula {
		return "", api.ErrLong
	}
	return Sign + text, api.OK
}
