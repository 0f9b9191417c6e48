package arith

import (
	"cmp"

	"slipstick/api"
	"slipstick/family"
	"slipstick/long"
	"slipstick/worth"
)

// enough bits of a number, and one that tells whether anything is left, say how it is rounded: numbers of the grids, and
// what lies halfway between two of them, all have fewer.
const enough = 128

func (x operand) zero() bool { return x.class == api.ClassZero }

func (x operand) infinite() bool { return x.class == api.ClassInfinite }

// opposite of an operand.
func (x operand) opposite() operand {
	x.neg = !x.neg
	x.number.Neg = !x.number.Neg
	return x
}

// numberOf is an operand with a number in it; if that is 0, neg is its sign.
func numberOf(x long.Dyad, neg bool) operand {
	if x.Sign() == 0 {
		return operand{class: api.ClassZero, neg: neg}
	}
	return operand{api.ClassNumber, x.Neg, x}
}

// compare two, of which each is a number, 0, or infinite.
func (x operand) compare(y operand) int {
	if x.infinite() || y.infinite() {
		return cmp.Compare(x.beyond(), y.beyond())
	}
	return x.number.Compare(y.number)
}

// beyond tells on which side of all numbers an operand is: -1 or 1, or 0, if it is one of them.
func (x operand) beyond() int {
	switch {
	case !x.infinite():
		return 0
	case x.neg:
		return -1
	}
	return 1
}

// sum of two.
func (d desk) sum(x, y operand) (operand, int) {
	switch {
	case x.infinite() && y.infinite() && x.neg != y.neg:
		return d.nothing(api.FlagInvalid)
	case x.infinite():
		return x, 0
	case y.infinite():
		return y, 0
	}
	neg := d.way == api.RoundDown
	if x.neg == y.neg {
		neg = x.neg
	}
	return numberOf(x.number.Plus(y.number), neg), 0
}

// product of two.
func (d desk) product(x, y operand) (operand, int) {
	neg := x.neg != y.neg
	switch {
	case x.infinite() && y.zero() || x.zero() && y.infinite():
		return d.nothing(api.FlagInvalid)
	case x.infinite() || y.infinite():
		return operand{class: api.ClassInfinite, neg: neg}, 0
	}
	return numberOf(x.number.Times(y.number), neg), 0
}

// quotient of two.
func (d desk) quotient(x, y operand) (operand, int) {
	neg := x.neg != y.neg
	switch {
	case x.infinite() && y.infinite() || x.zero() && y.zero():
		return d.nothing(api.FlagInvalid)
	case x.infinite():
		return operand{class: api.ClassInfinite, neg: neg}, 0
	case y.infinite():
		return operand{class: api.ClassZero, neg: neg}, 0
	case y.zero():
		return d.byZero(neg)
	}
	return numberOf(x.number.Over(y.number, enough), neg), 0
}

// byZero is what comes of a number over 0.
func (d desk) byZero(neg bool) (operand, int) {
	switch d.family {
	case family.A:
		return operand{class: api.ClassInfinite, neg: neg}, api.FlagZero
	case family.B:
		return numberOf(long.Of(worth.Number(d.greatest(neg), d.grid)), neg), api.FlagZero
	}
	return d.nothing(api.FlagZero)
}

// root of one.
func (d desk) root(x operand) (operand, int) {
	switch {
	case x.zero():
		return x, 0
	case x.neg:
		return d.nothing(api.FlagInvalid)
	case x.infinite():
		return x, 0
	}
	return numberOf(x.number.Root(enough), false), 0
}
