package dyad

import (
	"slipstick/api"
	"slipstick/digits"
)

// long is a dyad of which nobody asks how long its Mantissa is, nor how great its Exp: only what is answered in the end
// must keep to the bounds, and on the way there a number may need more.
type long struct{ api.Dyad }

// longOf a sign, a mantissa and an exponent.
func longOf(neg bool, mantissa digits.Number, exp int) long {
	return long{api.Dyad{Neg: neg, Mantissa: api.Nat(mantissa), Exp: exp}}
}

// mantissa of a, to be reckoned with.
func (a long) mantissa() digits.Number { return digits.Number(a.Mantissa) }

// bare is the same number with an odd mantissa, or 0 without anything.
func (a long) bare() long {
	if len(a.Mantissa) == 0 {
		return long{}
	}
	twos := a.mantissa().Twos()
	return longOf(a.Neg, a.mantissa().Shifted(-twos), a.Exp+twos)
}

// at is the mantissa that a has with another exponent, which must not be more than its own.
func (a long) at(exp int) digits.Number { return a.mantissa().Shifted(a.Exp - exp) }

// plus is a and b together.
func (a long) plus(b long) long {
	exp := min(a.Exp, b.Exp)
	x, y := a.at(exp), b.at(exp)
	switch {
	case a.Neg == b.Neg:
		return longOf(a.Neg, x.Plus(y), exp)
	case x.Compare(y) < 0:
		return longOf(b.Neg, y.Minus(x), exp)
	}
	return longOf(a.Neg, x.Minus(y), exp)
}

// times is a times b.
func (a long) times(b long) long {
	return longOf(a.Neg != b.Neg, a.mantissa().Times(b.mantissa()), a.Exp+b.Exp)
}

// opposite of a.
func (a long) opposite() long {
	a.Neg = !a.Neg
	return a
}

// sign of a: -1, 0 or 1.
func (a long) sign() int {
	switch {
	case len(a.Mantissa) == 0:
		return 0
	case a.Neg:
		return -1
	}
	return 1
}

// cut a to so many bits: to the next such number that is not less (up), or not more.
func (a long) cut(bits int, up bool) long {
	spare := a.mantissa().Bits() - bits
	if spare <= a.mantissa().Twos() {
		return a
	}
	kept := a.mantissa().Shifted(-spare)
	if up != a.Neg {
		kept = kept.Plus(digits.Number{1})
	}
	return longOf(a.Neg, kept, a.Exp+spare)
}
