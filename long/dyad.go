// Package long reckons with numbers with a point of which nobody asks how long they are: only what is answered in the
// end must keep to the bounds, and on the way there a number may need more. It asks nothing of what it is handed.
package long

import (
	"slipstick/api"
	"slipstick/digits"
)

// Dyad whose Mantissa may have any length, and whose Exp may be any.
type Dyad struct{ api.Dyad }

// Of one of api's.
func Of(a api.Dyad) Dyad { return Dyad{a} }

// New dyad, of a sign, a mantissa and an exponent.
func New(neg bool, mantissa digits.Number, exp int) Dyad {
	return Dyad{api.Dyad{Neg: neg, Mantissa: api.Nat(mantissa), Exp: exp}}
}

// Whole number n, which must not be below 0.
func Whole(n int) Dyad { return New(false, digits.FromWord(uint64(n)), 0) }

// Top is how many bits stand ahead of the point (if it is below 0: how many noughts behind it). a must not be 0.
func (a Dyad) Top() int { return a.Digits().Bits() + a.Exp }

// Digits of the mantissa, to be reckoned with.
func (a Dyad) Digits() digits.Number { return digits.Number(a.Mantissa) }

// Bare is the same number with an odd mantissa, or 0 without anything.
func (a Dyad) Bare() Dyad {
	if len(a.Mantissa) == 0 {
		return Dyad{}
	}
	twos := a.Digits().Twos()
	return New(a.Neg, a.Digits().Shifted(-twos), a.Exp+twos)
}

// Short answers a number, bare, unless it needs more than one of api's may have. (To make it bare is to make it anew: so
// what is answered shares nothing with what was handed in.)
func (a Dyad) Short() (api.Dyad, api.Errno) {
	a = a.Bare()
	switch {
	case len(a.Mantissa) > api.MaxDigits:
		return api.Dyad{}, api.ErrMany
	case a.Exp < -api.MaxExp || a.Exp > api.MaxExp:
		return api.Dyad{}, api.ErrRange
	}
	return a.Dyad, api.OK
}

// at is the mantissa that a has with another exponent, which must not be more than its own.
func (a Dyad) at(exp int) digits.Number { return a.Digits().Shifted(a.Exp - exp) }

// Plus is a and b together.
func (a Dyad) Plus(b Dyad) Dyad {
	exp := min(a.Exp, b.Exp)
	x, y := a.at(exp), b.at(exp)
	switch {
	case a.Neg == b.Neg:
		return New(a.Neg, x.Plus(y), exp)
	case x.Compare(y) < 0:
		return New(b.Neg, y.Minus(x), exp)
	}
	return New(a.Neg, x.Minus(y), exp)
}

// Opposite of a.
func (a Dyad) Opposite() Dyad {
	a.Neg = !a.Neg
	return a
}

// Size is a without its sign.
func (a Dyad) Size() Dyad {
	a.Neg = false
	return a
}

// Minus is a less b.
func (a Dyad) Minus(b Dyad) Dyad { return a.Plus(b.Opposite()) }

// Scaled is a times 2 to the power of n.
func (a Dyad) Scaled(n int) Dyad {
	a.Exp += n
	return a
}

// Times is a times b.
func (a Dyad) Times(b Dyad) Dyad {
	return New(a.Neg != b.Neg, a.Digits().Times(b.Digits()), a.Exp+b.Exp)
}

// Sign of a: -1, 0 or 1.
func (a Dyad) Sign() int {
	switch {
	case len(a.Mantissa) == 0:
		return 0
	case a.Neg:
		return -1
	}
	return 1
}

// Compare answers -1, 0 or 1, as a is less than b, the same, or more.
func (a Dyad) Compare(b Dyad) int { return a.Minus(b).Sign() }

// Cut a to so many bits: to the next such number that is not less (up), or not more.
func (a Dyad) Cut(bits int, up bool) Dyad {
	spare := a.Digits().Bits() - bits
	if spare <= a.Digits().Twos() {
		return a
	}
	kept := a.Digits().Shifted(-spare)
	if up != a.Neg {
		kept = kept.Plus(digits.Number{1})
	}
	return New(a.Neg, kept, a.Exp+spare)
}
