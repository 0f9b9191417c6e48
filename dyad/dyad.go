// Package dyad: numbers with a point: see doc/02-dyad.md.
package dyad

import (
	"slipstick/api"
	"slipstick/long"
	"slipstick/nat"
)

// beyond tells whether a number is more than most, without its sign.
func beyond(n, most int) bool { return n < -most || n > most }

// Check tells what is wrong with a dyad.
func Check(a api.Dyad) api.Errno {
	if e := nat.Check(a.Mantissa); e != api.OK {
		return e
	}
	if beyond(a.Exp, api.MaxExp) {
		return api.ErrRange
	}
	return api.OK
}

// wrong tells what is wrong with the first of some dyads with which something is.
func wrong(dyads ...api.Dyad) api.Errno {
	for _, a := range dyads {
		if e := Check(a); e != api.OK {
			return e
		}
	}
	return api.OK
}

// both answers what do makes of two dyads.
func both(a, b api.Dyad, do func(a, b long.Dyad) long.Dyad) (api.Dyad, api.Errno) {
	if e := wrong(a, b); e != api.OK {
		return api.Dyad{}, e
	}
	return do(long.Of(a), long.Of(b)).Short()
}

// Bare dyad: the same number.
func Bare(a api.Dyad) (api.Dyad, api.Errno) {
	if e := wrong(a); e != api.OK {
		return api.Dyad{}, e
	}
	return long.Of(a).Short()
}

// Compare two: -1, 0 or 1, as a is less than b, the same, or more.
func Compare(a, b api.Dyad) (int, api.Errno) {
	if e := wrong(a, b); e != api.OK {
		return 0, e
	}
	return long.Of(a).Compare(long.Of(b)), api.OK
}

// Add two.
func Add(a, b api.Dyad) (api.Dyad, api.Errno) { return both(a, b, long.Dyad.Plus) }

// Mul of two.
func Mul(a, b api.Dyad) (api.Dyad, api.Errno) { return both(a, b, long.Dyad.Times) }

// Scale by a power of 2.
func Scale(a api.Dyad, n int) (api.Dyad, api.Errno) {
	if e := wrong(a); e != api.OK {
		return api.Dyad{}, e
	}
	if beyond(n, 2*api.MaxExp) {
		return api.Dyad{}, api.ErrRange
	}
	a.Exp += n
	return long.Of(a).Short()
}

// Cut to so many bits, down, or up.
func Cut(a api.Dyad, bits int, up bool) (api.Dyad, api.Errno) {
	if e := wrong(a); e != api.OK {
		return api.Dyad{}, e
	}
	if bits < 1 || bits > api.MaxBits {
		return api.Dyad{}, api.ErrRange
	}
	return long.Of(a).Cut(bits, up).Short()
}

// Floor without its sign, and whether a is below 0.
func Floor(a api.Dyad) (api.Nat, bool, api.Errno) {
	if e := wrong(a); e != api.OK {
		return nil, false, e
	}
	whole, e := nat.Shift(a.Mantissa, a.Exp)
	if e != api.OK {
		return nil, false, e
	}
	return whole, long.Of(a).Sign() < 0, api.OK
}
