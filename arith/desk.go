package arith

import (
	"slipstick/api"
	"slipstick/codec"
	"slipstick/family"
	"slipstick/grid"
	"slipstick/long"
	"slipstick/worth"
)

// desk is where operands of one format are reckoned with, and what comes is rounded by one way.
type desk struct {
	format, way int
	family      family.Family
	grid        api.Grid
}

// deskOf a format, without a way yet.
func deskOf(format int) (desk, api.Errno) {
	g, e := codec.Grid(format)
	if e != api.OK {
		return desk{}, e
	}
	return desk{format: format, family: family.Of(format), grid: g}, api.OK
}

// operand is a value that is not bound to a grid. Its number is 0, if it is not of ClassNumber; neg is the sign, of 0 too.
type operand struct {
	class  int
	neg    bool
	number long.Dyad
}

// operands of patterns.
func (d desk) operands(patterns ...string) ([]operand, api.Errno) {
	var list []operand
	for _, s := range patterns {
		v, x, e := worth.Read(d.format, s)
		if e != api.OK {
			return nil, e
		}
		list = append(list, operand{v.Class, v.Neg, long.Of(x)})
	}
	return list, api.OK
}

// noNumbers tells whether one of some operands is neither a number nor 0 nor infinite.
func noNumbers(list []operand) bool {
	for _, x := range list {
		if x.class == api.ClassNone || x.class == api.ClassReserved {
			return true
		}
	}
	return false
}

// reckon answers what do makes of the values of patterns: an operand, which is rounded then, and flags.
func reckon(format, way int, do func(d desk, v []operand) (operand, int), patterns ...string) (string, int, api.Errno) {
	d, e := deskOf(format)
	if e != api.OK {
		return "", 0, e
	}
	v, e := d.operands(patterns...)
	if e != api.OK {
		return "", 0, e
	}
	if way < api.RoundEven || way > api.RoundDown {
		return "", 0, api.ErrKind
	}
	d.way = way
	switch {
	case !noNumbers(v):
		return d.answer(do(d, v))
	case d.family == family.A:
		return d.answer(d.nothing(0))
	}
	return d.answer(d.nothing(api.FlagInvalid))
}

// nothing is what comes where there is no answer.
func (d desk) nothing(flags int) (operand, int) { return operand{class: d.family.Nothing()}, flags }

// answer an operand, rounded, and with flags beside those of rounding.
func (d desk) answer(x operand, flags int) (string, int, api.Errno) {
	switch x.class {
	case api.ClassNumber:
		p, e := grid.Round(ratioOf(x.number), d.grid, d.way)
		if e != api.OK {
			return "", 0, e
		}
		v, more := d.settle(p)
		return d.encode(v, flags|more)
	case api.ClassZero:
		return d.encode(api.Value{Class: x.class, Neg: x.neg && d.family == family.A}, flags)
	}
	return d.encode(api.Value{Class: x.class, Neg: x.neg}, flags)
}

// encode what a call answers.
func (d desk) encode(v api.Value, flags int) (string, int, api.Errno) {
	s, e := codec.Encode(d.format, v)
	if e != api.OK {
		return "", 0, e
	}
	return s, flags, api.OK
}
