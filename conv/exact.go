package conv

import (
	"slipstick/api"
	"slipstick/codec"
	"slipstick/digits"
	"slipstick/grid"
	"slipstick/worth"
)

// Exact: has the grid of one format all numbers of another one's?
func Exact(from, to int) (bool, api.Errno) {
	a, e := codec.Grid(from)
	if e != api.OK {
		return false, e
	}
	b, e := codec.Grid(to)
	if e != api.OK {
		return false, e
	}
	for _, x := range hardest(a) {
		held, e := grid.Holds(x, b)
		if e != api.OK || !held {
			return false, e
		}
	}
	return true, api.OK
}

// hardest numbers of a grid: a grid that holds these holds all of it. Whether it holds a number hangs on where the uppermost
// bit lies, and where the lowest one does: so numbers as long as they may be are asked for, at both ends, with each place
// that their bits can have among four, which is a digit to the base of 16; and the least one.
func hardest(g api.Grid) []api.Dyad {
	var list []api.Dyad
	if g.Gradual {
		list = append(list, number(g, digits.Number{1}, g.Least))
	}
	one, upper := digits.Number{1}, digits.Number{uint32(g.Radix)}.Power(g.Digits-1)
	for first := 1; first < g.Radix; first *= 2 {
		d := upper.Times(digits.Number{uint32(first)}).Plus(one)
		for i := range 4 {
			list = append(list, number(g, d, g.Least+i), number(g, d, g.Greatest-i))
		}
	}
	return list
}

// number of a grid: D times Radix to a power.
func number(g api.Grid, d digits.Number, power int) api.Dyad {
	return worth.Number(api.Value{Class: api.ClassNumber, Digits: api.Nat(d), Power: power}, g)
}
