package arith

import (
	"slipstick/api"
	"slipstick/digits"
	"slipstick/family"
	"slipstick/long"
)

// ratioOf a number, or of what is rounded as that is. Of a product or a quotient Exp may be more than that of a ratio may
// be, either way: what is too much of it stands in Num, or in Den.
func ratioOf(x long.Dyad) api.Ratio {
	x = x.Kept(enough)
	num, den := x.Digits(), digits.Number{1}
	exp := min(max(x.Exp, -api.MaxExp), api.MaxExp)
	if x.Exp > exp {
		num = num.Shifted(x.Exp - exp)
	} else {
		den = den.Shifted(exp - x.Exp)
	}
	return api.Ratio{Neg: x.Neg, Num: api.Nat(num), Den: api.Nat(den), Exp: exp}
}

// settle what comes of a place: a value that the format has, and flags.
func (d desk) settle(p api.Place) (api.Value, int) {
	switch {
	case p.Over:
		return d.over(p.Neg), api.FlagOver | api.FlagInexact
	case p.Under && p.Power < d.grid.Least:
		// Only a grid that is not Gradual leaves a number there.
		return api.Value{Class: api.ClassZero}, api.FlagUnder | api.FlagInexact
	}
	v := api.Value{Class: api.ClassNumber, Neg: p.Neg, Digits: p.Digits, Power: p.Power}
	if len(p.Digits) == 0 {
		v.Class = api.ClassZero
	}
	switch {
	case p.Exact:
		return v, 0
	case p.Under:
		return v, api.FlagUnder | api.FlagInexact
	}
	return v, api.FlagInexact
}

// greatest number of the grid, or its opposite.
func (d desk) greatest(neg bool) api.Value {
	end := digits.Number{uint32(d.grid.Radix)}.Power(d.grid.Digits)
	return api.Value{Class: api.ClassNumber, Neg: neg, Digits: api.Nat(end.Minus(digits.Number{1})), Power: d.grid.Greatest}
}

// over is what becomes of a number that is too great.
func (d desk) over(neg bool) api.Value {
	switch {
	case d.family == family.C:
		return api.Value{Class: d.family.Nothing()}
	case d.family == family.A && d.outward(neg):
		return api.Value{Class: api.ClassInfinite, Neg: neg}
	}
	return d.greatest(neg)
}

// outward tells whether the way leads from beyond the greatest number, or beyond its opposite, still farther from 0.
func (d desk) outward(neg bool) bool {
	switch d.way {
	case api.RoundEven, api.RoundAway:
		return true
	case api.RoundUp:
		return !neg
	}
	return neg && d.way == api.RoundDown
}
