package elem

import (
	"slipstick/api"
	"slipstick/kernel"
	"slipstick/long"
	"slipstick/span"
)

// outcome is what comes where nothing need be refined.
type outcome func(d desk) (string, int, api.Errno)

// function is what a kind does.
type function struct {
	// zero and infinite are what comes of these.
	zero, infinite outcome
	// known is what comes of a number (as all here, bare) of which there is no value, or one that has an end; nil: it is
	// none of these.
	known func(x long.Dyad) outcome
	// reckon a span with the value of another number between its ends, by so many bits.
	reckon func(x long.Dyad, bits int) span.Span
}

// functions by kinds.
func functions() map[int]function {
	one, minusOne, zero := exactly(long.Whole(1)), exactly(long.Whole(1).Opposite()), exactly(long.Dyad{})
	toZero, toMinusOne, toNothing := bySign(desk.endless, zero), bySign(desk.endless, minusOne), bySign(desk.endless, desk.invalid)
	return map[int]function{
		api.KindExp:    {one, toZero, nothingKnown, exp},
		api.KindLog:    {desk.pole, toNothing, knownLog, of(kernel.Log)},
		api.KindSin:    {desk.nought, desk.invalid, knownAngle, of(kernel.Sin)},
		api.KindCos:    {one, desk.invalid, knownAngle, of(kernel.Cos)},
		api.KindArctan: {desk.nought, desk.quarter, nothingKnown, of(kernel.Arctan)},
		api.KindExp2:   {one, toZero, knownExp2, exp2},
		api.KindLog2:   {desk.pole, toNothing, knownLog2, log2},
		api.KindExpm1:  {desk.nought, toMinusOne, nothingKnown, expm1},
		api.KindLog1p:  {desk.nought, toNothing, knownLog1p, log1p},
	}
}

// exactly a number, fitted.
func exactly(x long.Dyad) outcome {
	return func(d desk) (string, int, api.Errno) { return d.fit(x) }
}

// bySign is one outcome or, if the pattern has a sign, another one.
func bySign(plain, signed outcome) outcome {
	return func(d desk) (string, int, api.Errno) {
		if d.value.Neg {
			return signed(d)
		}
		return plain(d)
	}
}

func nothingKnown(long.Dyad) outcome { return nil }

func knownLog(x long.Dyad) outcome {
	switch {
	case x.Neg:
		return desk.invalid
	case x.Compare(long.Whole(1)) == 0:
		return exactly(long.Dyad{})
	}
	return nil
}

// greatestAngle is the power of 2 which an angle must be below.
const greatestAngle = 1200

func knownAngle(x long.Dyad) outcome {
	if x.Top() > greatestAngle {
		return desk.tooGreat
	}
	return nil
}

func knownExp2(x long.Dyad) outcome {
	switch {
	case x.Exp < 0:
		return nil
	case far(x):
		return exactly(beyond(x.Neg))
	}
	return exactly(long.Whole(1).Scaled(nearest(x)))
}

func knownLog2(x long.Dyad) outcome {
	switch {
	case x.Neg:
		return desk.invalid
	case x.Digits().Bits() > 1:
		return nil
	}
	return exactly(whole(x.Exp))
}

func knownLog1p(x long.Dyad) outcome {
	switch x.Plus(long.Whole(1)).Sign() {
	case -1:
		return desk.invalid
	case 0:
		return desk.pole
	}
	return nil
}
