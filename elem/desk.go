package elem

import (
	"slipstick/api"
	"slipstick/arith"
	"slipstick/codec"
	"slipstick/digits"
	"slipstick/family"
	"slipstick/long"
	"slipstick/span"
	"slipstick/sums"
	"slipstick/worth"
)

// desk is where a function is asked of one pattern: its value, the number that it is (bare; 0, if it is none), and how what
// comes is rounded.
type desk struct {
	format, way, most int
	family            family.Family
	value             api.Value
	number            long.Dyad
}

// answer what a function makes of the pattern.
func (d desk) answer(f function) (string, int, api.Errno) {
	switch d.value.Class {
	case api.ClassNone:
		return d.encode(api.Value{Class: api.ClassNone}, 0)
	case api.ClassReserved:
		return d.invalid()
	case api.ClassZero:
		return f.zero(d)
	case api.ClassInfinite:
		return f.infinite(d)
	}
	if known := f.known(d.number); known != nil {
		return known(d)
	}
	return d.refined(f.reckon)
}

// refined is what a number comes to, of which reckon tells a span by more and more bits, till these are enough to tell, or
// as many as they may be.
func (d desk) refined(reckon func(x long.Dyad, bits int) span.Span) (string, int, api.Errno) {
	for bits := leastBits; ; bits = min(2*bits, d.most) {
		s, flags, e := d.common(reckon(d.number, bits))
		if e != api.ErrUnsure || bits == d.most {
			return s, flags, e
		}
	}
}

// common is what all numbers between the ends of a span come to; ErrUnsure, if they do not all come to the same. The ends
// themselves are left out: the value that is looked for is no number of bits, and so it is neither of them. Were they in,
// nobody could tell a value that is very near to a number of the grid from that number.
func (d desk) common(s span.Span) (string, int, api.Errno) {
	low, flags, e := d.fit(beside(s.Low, true))
	if e != api.OK {
		return "", 0, e
	}
	high, others, e := d.fit(beside(s.High, false))
	switch {
	case e != api.OK:
		return "", 0, e
	case low != high || flags != others:
		return "", 0, api.ErrUnsure
	}
	return low, flags, api.OK
}

// enough bits of a number, and one more, say how it is rounded: numbers of the grids, and what lies halfway between two of
// them, all have fewer.
const enough = 128

// beside stands for the numbers next to x, which is not 0, above it (up) or below it: it is no number of a grid, nor
// halfway between two, and no such one lies between.
func beside(x long.Dyad, up bool) long.Dyad {
	shift := max(1, enough-x.Digits().Bits())
	return x.Plus(long.New(!up, digits.Number{1}, x.Exp-shift))
}

// fit a number to the format.
func (d desk) fit(x long.Dyad) (string, int, api.Errno) {
	return arith.Fit(d.format, worth.Ratio(x.Dyad), d.way)
}

// encode a value that need not be rounded.
func (d desk) encode(v api.Value, flags int) (string, int, api.Errno) {
	s, e := codec.Encode(d.format, v)
	if e != api.OK {
		return "", 0, e
	}
	return s, flags, api.OK
}

// invalid is what comes where there is no answer.
func (d desk) invalid() (string, int, api.Errno) {
	return d.encode(api.Value{Class: d.family.Nothing()}, api.FlagInvalid)
}

// nought with the sign of the pattern, if the format has such a one.
func (d desk) nought() (string, int, api.Errno) {
	return d.encode(api.Value{Class: api.ClassZero, Neg: d.value.Neg && d.family == family.A}, 0)
}

// endless is what is infinite, without a sign.
func (d desk) endless() (string, int, api.Errno) {
	return d.encode(api.Value{Class: api.ClassInfinite}, 0)
}

// pole is what comes of -1 over 0: in each family it is the same that is asked of Log of 0.
func (d desk) pole() (string, int, api.Errno) {
	minus, _, e := d.fit(long.Whole(1).Opposite())
	if e != api.OK {
		return "", 0, e
	}
	zero, _, e := d.fit(long.Dyad{})
	if e != api.OK {
		return "", 0, e
	}
	return arith.Div(d.format, minus, zero, d.way)
}

// quarter of a circle with the sign of the pattern.
func (d desk) quarter() (string, int, api.Errno) {
	s := sums.Pi(2 * enough).Scaled(-1)
	if d.value.Neg {
		s = s.Opposite()
	}
	return d.common(s)
}

// tooGreat is what comes of an angle that is.
func (d desk) tooGreat() (string, int, api.Errno) { return "", 0, api.ErrMany }
