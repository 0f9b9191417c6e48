package grid

import (
	"slipstick/api"
	"slipstick/digits"
	"slipstick/long"
)

// mesh is a grid with which nothing is wrong.
type mesh struct{ api.Grid }

// spot is a D and its K; 0, which a grid has beside its own numbers, has no D, and Least.
type spot struct {
	d     digits.Number
	power int
}

// width is how many bits a digit of the grid has.
func (g mesh) width() int {
	if g.Radix == 16 {
		return 4
	}
	return 1
}

// raised is Radix to the power of n.
func (g mesh) raised(n int) digits.Number { return digits.Number{1}.Shifted(g.width() * n) }

// first is the least D that is whole.
func (g mesh) first() digits.Number { return g.raised(g.Digits - 1) }

// end is what comes next to the greatest D, and is none itself.
func (g mesh) end() digits.Number { return g.raised(g.Digits) }

// power with which the D of a number is whole; top is the power of 2 for which its uppermost bit stands.
func (g mesh) power(top int) int {
	bits := g.width()
	digit := top / bits
	if top < digit*bits {
		digit--
	}
	return digit - (g.Digits - 1)
}

// number at a spot, or its opposite.
func (g mesh) number(neg bool, at spot) long.Dyad { return long.New(neg, at.d, g.width()*at.power) }

// find the spot of a number, without its sign, and whether it is one of the grid, or 0.
func (g mesh) find(x long.Dyad) (spot, bool) {
	if x.Sign() == 0 {
		return spot{nil, g.Least}, true
	}
	power := g.power(x.Digits().Bits() - 1 + x.Exp)
	if power < g.Least && g.Gradual {
		power = g.Least
	}
	exp := g.width() * power
	if power < g.Least || power > g.Greatest || x.Bare().Exp < exp {
		return spot{}, false
	}
	return spot{x.Digits().Shifted(x.Exp - exp), power}, true
}

// farther is the next spot away from 0. (Its power may be more than Greatest.)
func (g mesh) farther(at spot) spot {
	if len(at.d) == 0 && !g.Gradual {
		return spot{g.first(), g.Least}
	}
	return g.carried(spot{at.d.Plus(digits.Number{1}), at.power})
}

// carried is the same number, where D has become one digit too long.
func (g mesh) carried(at spot) spot {
	if at.d.Compare(g.end()) == 0 {
		return spot{g.first(), at.power + 1}
	}
	return at
}

// nearer is the next spot to 0, which must not be there already.
func (g mesh) nearer(at spot) spot {
	one := digits.Number{1}
	if at.d.Compare(g.first()) != 0 {
		return spot{at.d.Minus(one), at.power}
	}
	switch {
	case at.power > g.Least:
		return spot{g.end().Minus(one), at.power - 1}
	case g.Gradual:
		return spot{at.d.Minus(one), g.Least}
	}
	return spot{nil, g.Least}
}
