package kernel

import (
	"math"
	"math/big"
)

// What the functions are held against: the library's numbers with a point, by many bits and other formulas.

// prec is with how many bits these are reckoned: angles may be great by 1200 bits, and near to quarters of a circle by 1200
// more; what is left tells more than any ball does.
const prec = 4200

// sure is how many bits of what comes are right in any case.
const sure = 1500

func float(x float64) *big.Float { return new(big.Float).SetPrec(prec).SetFloat64(x) }

func fresh() *big.Float { return new(big.Float).SetPrec(prec) }

func whole(n int64) *big.Float { return fresh().SetInt64(n) }

// added up are terms, from the first on, of which each is the one ahead of it times x and a ratio.
func added(first, x *big.Float, next func(k int64) (times, over int64)) *big.Float {
	sum, term := fresh().Set(first), fresh().Set(first)
	for k := int64(1); term.Sign() != 0 && term.MantExp(nil) > sum.MantExp(nil)-prec; k++ {
		times, over := next(k)
		term.Mul(term, x).Mul(term, whole(times)).Quo(term, whole(over))
		sum.Add(sum, term)
	}
	return sum
}

// truePi by the mean of the arithmetic and the geometric mean.
func truePi() *big.Float {
	a, b, rest := float(1), float(0.5), float(0.25)
	b.Sqrt(b)
	for i := range 13 {
		mean := fresh().Add(a, b)
		mean.Quo(mean, float(2))
		away := fresh().Sub(a, mean)
		rest.Sub(rest, away.Mul(away, away).Mul(away, whole(1<<i)))
		b.Mul(a, b).Sqrt(b)
		a = mean
	}
	return a.Mul(a, a).Quo(a, rest)
}

// trueExp: x is halved till it is small, and what comes is squared as often.
func trueExp(x *big.Float) *big.Float {
	halved := max(0, x.MantExp(nil)+12)
	y := fresh().SetMantExp(x, -halved)
	sum := added(float(1), y, func(k int64) (int64, int64) { return 1, k })
	for range halved {
		sum.Mul(sum, sum)
	}
	return sum
}

// trueLog goes nearer to it by trueExp: each time three times as many bits are right.
func trueLog(x *big.Float) *big.Float {
	y := fresh().Sub(x, float(1))
	if y.Sign() == 0 {
		return y
	}
	if y.MantExp(nil) > -20 {
		part := new(big.Float)
		exp := x.MantExp(part)
		n, _ := part.Float64()
		y = float(math.Log(n) + float64(exp)*math.Ln2)
	}
	for range 6 {
		e := trueExp(y)
		away := fresh().Sub(x, e)
		y.Add(y, away.Add(away, away).Quo(away, e.Add(e, x)))
	}
	return y
}

// turned is x less some quarters of a circle, and how many more than a multiple of 4 these are.
func turned(x, pi *big.Float) (*big.Float, int) {
	quarter := fresh().Quo(pi, float(2))
	often := fresh().Quo(x, quarter)
	half := 0.5
	if x.Sign() < 0 {
		half = -0.5
	}
	n, _ := often.Add(often, float(half)).Int(nil)
	rest := fresh().Sub(x, quarter.Mul(quarter, fresh().SetInt(n)))
	return rest, int(n.Mod(n, big.NewInt(4)).Int64())
}

// trueSin is the sine of x and of so many quarters of a circle more.
func trueSin(x, pi *big.Float, quarters int) *big.Float {
	rest, turn := turned(x, pi)
	turn = (turn + quarters) % 4
	square := fresh().Mul(rest, rest)
	square.Neg(square)
	var s *big.Float
	if turn%2 == 0 {
		s = added(rest, square, func(k int64) (int64, int64) { return 1, 2 * k * (2*k + 1) })
	} else {
		s = added(float(1), square, func(k int64) (int64, int64) { return 1, (2*k - 1) * 2 * k })
	}
	if turn >= 2 {
		s.Neg(s)
	}
	return s
}

// trueArctan by Euler's sum, of which all terms have the sign of x.
func trueArctan(x, pi *big.Float) *big.Float {
	if fresh().Abs(x).Cmp(float(1)) > 0 {
		quarter := fresh().Quo(pi, float(2))
		if x.Sign() < 0 {
			quarter.Neg(quarter)
		}
		return quarter.Sub(quarter, trueArctan(fresh().Quo(float(1), x), pi))
	}
	square := fresh().Mul(x, x)
	below := fresh().Add(square, float(1))
	first := fresh().Quo(x, below)
	return added(first, square.Quo(square, below), func(k int64) (int64, int64) { return 2 * k, 2*k + 1 })
}
