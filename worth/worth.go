// Package worth tells which number a pattern is.
package worth

import (
	"slipstick/api"
	"slipstick/codec"
	"slipstick/grid"
)

// Read a pattern: its value, and the number that it is; 0, if it is not of ClassNumber.
func Read(format int, s string) (api.Value, api.Dyad, api.Errno) {
	g, e := codec.Grid(format)
	if e != api.OK {
		return api.Value{}, api.Dyad{}, e
	}
	v, e := codec.Decode(format, s)
	if e != api.OK {
		return api.Value{}, api.Dyad{}, e
	}
	return v, Number(v, g), api.OK
}

// Number of a value that a format with that grid has; 0, if it is not of ClassNumber.
func Number(v api.Value, g api.Grid) api.Dyad {
	// There is no error: dyads go farther than all formats.
	x, _ := grid.Number(api.Place{Neg: v.Neg, Digits: v.Digits, Power: v.Power}, g)
	return x
}

// Ratio that a number is.
func Ratio(x api.Dyad) api.Ratio {
	return api.Ratio{Neg: x.Neg, Num: x.Mantissa, Den: api.Nat{1}, Exp: x.Exp}
}
