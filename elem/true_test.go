package elem

import (
	"math"
	"math/big"

	"slipstick/api"
)

// What the functions are held against: the library's numbers with a point, by many bits and other formulas than the
// program's.

// pen reckons with so many bits.
type pen uint

// plenty of bits: numbers are near to 0 by some 200 of them at most, or else taken apart.
const plenty = 1200

func (p pen) fresh() *big.Float { return new(big.Float).SetPrec(uint(p)) }

func (p pen) whole(n int64) *big.Float { return p.fresh().SetInt64(n) }

// scaled is x times 2 to the power of n.
func (p pen) scaled(x *big.Float, n int) *big.Float { return p.fresh().SetMantExp(x, n) }

// added up are terms, from the first on, of which each is the one ahead of it times x and a ratio.
func (p pen) added(first, x *big.Float, next func(k int64) (times, over int64)) *big.Float {
	sum, term := p.fresh().Set(first), p.fresh().Set(first)
	for k := int64(1); term.Sign() != 0 && term.MantExp(nil) > sum.MantExp(nil)-int(p); k++ {
		times, over := next(k)
		term.Mul(term, x).Mul(term, p.whole(times)).Quo(term, p.whole(over))
		sum.Add(sum, term)
	}
	return sum
}

// pi by the mean of the arithmetic and the geometric mean.
func (p pen) pi() *big.Float {
	a, b, rest := p.whole(1), p.scaled(p.whole(1), -1), p.scaled(p.whole(1), -2)
	b.Sqrt(b)
	for i := range 12 {
		mean := p.fresh().Add(a, b)
		mean = p.scaled(mean, -1)
		away := p.fresh().Sub(a, mean)
		rest.Sub(rest, away.Mul(away, away).Mul(away, p.whole(1<<i)))
		b.Mul(a, b).Sqrt(b)
		a = mean
	}
	return a.Mul(a, a).Quo(a, rest)
}

// exp: x is halved till it is small, and what comes is squared as often.
func (p pen) exp(x *big.Float) *big.Float {
	halved := max(0, x.MantExp(nil)+12)
	sum := p.added(p.whole(1), p.scaled(x, -halved), func(k int64) (int64, int64) { return 1, k })
	for range halved {
		sum.Mul(sum, sum)
	}
	return sum
}

// log goes nearer to it by exp: each time three times as many bits are right.
func (p pen) log(x *big.Float) *big.Float {
	y := p.fresh().Sub(x, p.whole(1))
	if y.Sign() != 0 && y.MantExp(nil) > -20 {
		part := new(big.Float)
		exp := x.MantExp(part)
		n, _ := part.Float64()
		y = p.fresh().SetFloat64(math.Log(n) + float64(exp)*math.Ln2)
	}
	for range 5 {
		e := p.exp(y)
		away := p.fresh().Sub(x, e)
		y.Add(y, away.Add(away, away).Quo(away, e.Add(e, x)))
	}
	return y
}

// sin of x and of so many quarters of a circle more.
func (p pen) sin(x *big.Float, quarters int64) *big.Float {
	quarter := p.scaled(p.pi(), -1)
	half := p.scaled(p.whole(1), -1)
	often := p.fresh().Quo(p.fresh().Abs(x), quarter)
	n, _ := often.Add(often, half).Int(nil)
	if x.Sign() < 0 {
		n.Neg(n)
	}
	rest := p.fresh().Sub(x, quarter.Mul(quarter, p.fresh().SetInt(n)))
	turn := (n.Mod(n, big.NewInt(4)).Int64() + quarters) % 4
	square := p.fresh().Mul(rest, rest)
	square.Neg(square)
	var s *big.Float
	if turn%2 == 0 {
		s = p.added(rest, square, func(k int64) (int64, int64) { return 1, 2 * k * (2*k + 1) })
	} else {
		s = p.added(p.whole(1), square, func(k int64) (int64, int64) { return 1, (2*k - 1) * 2 * k })
	}
	if turn >= 2 {
		s.Neg(s)
	}
	return s
}

// arctan by Euler's sum, of which all terms have the sign of x.
func (p pen) arctan(x *big.Float) *big.Float {
	if p.fresh().Abs(x).Cmp(p.whole(1)) > 0 {
		quarter := p.scaled(p.pi(), -1)
		if x.Sign() < 0 {
			quarter.Neg(quarter)
		}
		return quarter.Sub(quarter, p.arctan(p.fresh().Quo(p.whole(1), x)))
	}
	square := p.fresh().Mul(x, x)
	below := p.fresh().Add(square, p.whole(1))
	first := p.fresh().Quo(x, below)
	return p.added(first, square.Quo(square, below), func(k int64) (int64, int64) { return 2 * k, 2*k + 1 })
}

// expm1 of x that is small must not be reckoned by what is nearly 1.
func (p pen) expm1(x *big.Float) *big.Float {
	if x.MantExp(nil) < 0 {
		return p.added(x, x, func(k int64) (int64, int64) { return 1, k + 1 })
	}
	e := p.exp(x)
	return e.Sub(e, p.whole(1))
}

// Numbers of which the functions are taken apart here: beyond these powers of 2, or of e.
const (
	tinyBound = -200
	farBound  = 16900
	expBound  = 11800
)

// next to y, above it (up) or below it: whatever lies there is rounded alike.
func (p pen) next(y *big.Float, up bool) *big.Float {
	little := p.scaled(p.fresh().Abs(y), -500)
	if !up {
		little.Neg(little)
	}
	return p.fresh().Add(y, little)
}

// nearZero is a function of x that is very near to 0; false: it is a logarithm, which is far from all that is known there.
func (p pen) nearZero(kind int, x *big.Float) (*big.Float, bool) {
	above := x.Sign() > 0
	switch kind {
	case api.KindExp, api.KindExp2:
		return p.next(p.whole(1), above), true
	case api.KindCos:
		return p.next(p.whole(1), false), true
	case api.KindSin, api.KindArctan:
		return p.next(x, !above), true
	case api.KindExpm1:
		return p.next(x, true), true
	case api.KindLog1p:
		return p.next(x, false), true
	}
	return nil, false
}

// truth is a function of x, which is not 0, and of which the function is no number of bits: as many bits of it as matter,
// or a number that is rounded alike.
func truth(kind int, x *big.Float) *big.Float {
	p := pen(plenty + uint(max(0, x.MantExp(nil))))
	if kind != api.KindSin && kind != api.KindCos {
		p = plenty
	}
	great := func(bound int64) bool { return p.fresh().Abs(x).Cmp(p.whole(bound)) > 0 }
	beyond := p.scaled(p.whole(1), x.Sign()*farBound)
	if y, ok := p.nearZero(kind, x); ok && x.MantExp(nil) < tinyBound {
		return y
	}
	switch {
	case kind == api.KindExp && great(expBound) || kind == api.KindExp2 && great(farBound):
		return beyond
	case kind == api.KindExpm1 && x.Sign() < 0 && great(200):
		return p.next(p.whole(-1), true)
	case kind == api.KindExpm1 && great(expBound):
		return beyond
	}
	switch kind {
	case api.KindExp:
		return p.exp(x)
	case api.KindLog:
		return p.log(x)
	case api.KindSin:
		return p.sin(x, 0)
	case api.KindCos:
		return p.sin(x, 1)
	case api.KindArctan:
		return p.arctan(x)
	case api.KindExp2:
		return p.exp(p.fresh().Mul(x, p.log(p.whole(2))))
	case api.KindLog2:
		return p.fresh().Quo(p.log(x), p.log(p.whole(2)))
	case api.KindExpm1:
		return p.expm1(x)
	}
	return p.log(p.fresh().Add(x, p.whole(1)))
}
