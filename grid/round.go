package grid

import (
	"slipstick/api"
	"slipstick/digits"
)

// behind is what there is behind the point of a D, and what the ways to round ask of it.
type behind struct {
	half int  // -1, 0 or 1: it is less than a half, a half, or more
	odd  bool // is D odd, without it?
	neg  bool // is the number below 0?
}

// ways to round: each tells whether D, of which something is behind the point, goes away from 0.
func ways() map[int]func(behind) bool {
	return map[int]func(behind) bool{
		api.RoundEven: func(b behind) bool { return b.half > 0 || b.half == 0 && b.odd },
		api.RoundAway: func(b behind) bool { return b.half >= 0 },
		api.RoundZero: func(behind) bool { return false },
		api.RoundUp:   func(b behind) bool { return !b.neg },
		api.RoundDown: func(b behind) bool { return b.neg },
	}
}

// round a ratio that is not 0.
func (g mesh) round(q api.Ratio, away func(behind) bool) api.Place {
	power := g.power(top(q))
	p := api.Place{Neg: q.Neg, Under: power < g.Least}
	if p.Under && g.Gradual {
		power = g.Least
	}
	d, rest, den := parts(q, q.Exp-g.width()*power)
	p.Exact = len(rest) == 0
	if !p.Exact && away(behind{rest.Shifted(1).Compare(den), d.Odd(), q.Neg}) {
		d = d.Plus(digits.Number{1})
	}
	if len(d) == 0 {
		return p
	}
	at := g.carried(spot{d, power})
	p.Digits, p.Power, p.Over = api.Nat(at.d), at.power, at.power > g.Greatest
	return p
}

// top is the power of 2 for which the uppermost bit of a ratio stands.
func top(q api.Ratio) int {
	lead := digits.Number(q.Num).Bits() - digits.Number(q.Den).Bits()
	whole, _, _ := parts(q, -lead)
	if len(whole) == 0 {
		lead--
	}
	return q.Exp + lead
}

// parts of Num over Den times 2 to the power of n: the whole number in it, what is left, and of what that is a part.
func parts(q api.Ratio, n int) (whole, rest, den digits.Number) {
	num, den := digits.Number(q.Num), digits.Number(q.Den)
	if n < 0 {
		den = den.Shifted(-n)
	} else {
		num = num.Shifted(n)
	}
	whole, rest = num.Over(den)
	return whole, rest, den
}
