// Package nat: natural numbers: see doc/01-nat.md.
package nat

import (
	"slipstick/api"
	"slipstick/digits"
)

// Bounds that the chapter names.
const (
	maxShift = 40000
	maxRoot  = 10
	maxText  = 12000
)

// Check tells what is wrong with a number.
func Check(a api.Nat) api.Errno {
	switch {
	case len(a) > 0 && a[len(a)-1] == 0:
		return api.ErrForm
	case len(a) > api.MaxDigits:
		return api.ErrMany
	}
	return api.OK
}

// wrong tells what is wrong with the first of some numbers with which something is.
func wrong(numbers ...api.Nat) api.Errno {
	for _, a := range numbers {
		if e := Check(a); e != api.OK {
			return e
		}
	}
	return api.OK
}

// short answers a number, unless it has become too long.
func short(a digits.Number) (api.Nat, api.Errno) {
	if len(a) > api.MaxDigits {
		return nil, api.ErrMany
	}
	return api.Nat(a), api.OK
}

// both answers what do makes of two numbers.
func both(a, b api.Nat, do func(a, b digits.Number) digits.Number) (api.Nat, api.Errno) {
	if e := wrong(a, b); e != api.OK {
		return nil, e
	}
	return short(do(digits.Number(a), digits.Number(b)))
}

// Compare two: -1, 0 or 1, as a is less than b, the same, or more.
func Compare(a, b api.Nat) (int, api.Errno) {
	if e := wrong(a, b); e != api.OK {
		return 0, e
	}
	return digits.Number(a).Compare(digits.Number(b)), api.OK
}

// Bits of a number, up to its uppermost one that is set.
func Bits(a api.Nat) (int, api.Errno) {
	if e := wrong(a); e != api.OK {
		return 0, e
	}
	return digits.Number(a).Bits(), api.OK
}

// Add two.
func Add(a, b api.Nat) (api.Nat, api.Errno) { return both(a, b, digits.Number.Plus) }

// Mul of two.
func Mul(a, b api.Nat) (api.Nat, api.Errno) { return both(a, b, digits.Number.Times) }

// Sub of two: a less b.
func Sub(a, b api.Nat) (api.Nat, api.Errno) {
	order, e := Compare(a, b)
	if e != api.OK {
		return nil, e
	}
	if order < 0 {
		return nil, api.ErrRange
	}
	return both(a, b, digits.Number.Minus)
}

// Div of two: how often b is in a, and what is left.
func Div(a, b api.Nat) (api.Nat, api.Nat, api.Errno) {
	if e := wrong(a, b); e != api.OK {
		return nil, nil, e
	}
	if len(b) == 0 {
		return nil, nil, api.ErrRange
	}
	often, rest := digits.Number(a).Over(digits.Number(b))
	return api.Nat(often), api.Nat(rest), api.OK
}

// Shift by bits: a times 2 to the power of n, without what is behind the point.
func Shift(a api.Nat, n int) (api.Nat, api.Errno) {
	if e := wrong(a); e != api.OK {
		return nil, e
	}
	if n < -maxShift || n > maxShift {
		return nil, api.ErrRange
	}
	return short(digits.Number(a).Shifted(n))
}

// Root of a number: the greatest whose power k is not more than a.
func Root(a api.Nat, k int) (api.Nat, api.Errno) {
	if e := wrong(a); e != api.OK {
		return nil, e
	}
	if k < 1 || k > maxRoot {
		return nil, api.ErrRange
	}
	return short(digits.Number(a).Root(k))
}

// Print a number in decimal digits.
func Print(a api.Nat) (string, api.Errno) {
	if e := wrong(a); e != api.OK {
		return "", e
	}
	return digits.Number(a).Decimal(), api.OK
}

// Read a number that is printed so.
func Read(s string) (api.Nat, api.Errno) {
	if len(s) > maxText {
		return nil, api.ErrMany
	}
	if !printed(s) {
		return nil, api.ErrForm
	}
	return short(digits.FromDecimal(s))
}

// printed tells whether Print could have written a text, however long a number it would take.
func printed(s string) bool {
	if s == "" || s[0] == '0' && s != "0" {
		return false
	}
	for i := range len(s) {
		if s[i] < '0' || s[i] > '9' {
			return false
		}
	}
	return true
}
