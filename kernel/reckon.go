package kernel

import (
	"slipstick/digits"
	"slipstick/long"
	"slipstick/span"
	"slipstick/sums"
)

// What stands here reckons with so many bits, and tells some fewer rightly: who calls it looks at how narrow it came.

// quarter of a circle.
func quarter(work int) span.Span { return sums.Pi(work).Scaled(-1) }

// taken tells how often a unit (ln 2, or a quarter of a circle) must be taken from x, which is above 0, so that what is
// left is least without its sign, and what that is. Below a half nothing need be taken.
func taken(x long.Dyad, work int, unit func(work int) span.Span) (digits.Number, span.Span) {
	top := x.Top()
	if top < 0 {
		return nil, span.Of(x).Cut(work)
	}
	// What is wrong with the unit is wrong as often as it is taken.
	one := unit(work + top)
	often := nearest(x.Over(one.Low, top+spare))
	all := one.Times(span.Of(long.New(false, often, 0)))
	return often, span.Of(x).Minus(all).Cut(work)
}

// nearest whole number to x, which is not below 0.
func nearest(x long.Dyad) digits.Number {
	more := x.Plus(long.Whole(1).Scaled(-1))
	return more.Digits().Shifted(more.Exp)
}

// exp is e to the power of x: what is left when ln 2 is taken is not more than a half, and ln 2 is a factor of 2.
func exp(x long.Dyad, work int) span.Span {
	often, rest := taken(x.Size(), work, sums.Ln2)
	power := sums.Powers(rest, work, func(k int) (int, int) { return 1, k }).Scaled(int(often.Word()))
	if x.Neg {
		return span.Whole(1).Over(power, work)
	}
	return power
}

// sine of x, which is above 0.
func sine(x long.Dyad, work int) span.Span { return wave(x, work, 0) }

// cosine of x, which is above 0.
func cosine(x long.Dyad, work int) span.Span { return wave(x, work, 1) }

// wave is the sine of x, which is above 0, and of so many quarters of a circle more.
func wave(x long.Dyad, work int, quarters uint64) span.Span {
	often, rest := taken(x, work, quarter)
	turn := (lowest(often) + quarters) % 4
	s := alongWave(rest, work, turn%2 == 1)
	if turn >= 2 {
		return s.Opposite()
	}
	return s
}

// lowest digit of a number.
func lowest(n digits.Number) uint64 {
	if len(n) == 0 {
		return 0
	}
	return uint64(n[0])
}

// alongWave is the sine (top: the cosine) of an angle that is not more than about an eighth of a circle.
func alongWave(angle span.Span, work int, top bool) span.Span {
	u := angle.Times(angle).Cut(work).Opposite()
	if top {
		return sums.Powers(u, work, func(k int) (int, int) { return 1, (2*k - 1) * (2 * k) })
	}
	return angle.Times(sums.Powers(u, work, func(k int) (int, int) { return 1, 2 * k * (2*k + 1) }))
}

// arctan of x, which is above 0. The angle is halved until its tangent is small: then fewer terms are enough. (Of a tangent
// that is great, half of the angle has one of nearly 1.)
func arctan(x long.Dyad, work int) span.Span {
	one := span.Whole(1)
	z := span.Of(x).Cut(work)
	halved := 0
	for z.High.Top() > -3 {
		root := one.Plus(z.Times(z)).Cut(work).Root(work)
		z = z.Over(one.Plus(root), work)
		halved++
	}
	u := z.Times(z).Cut(work).Opposite()
	return z.Times(sums.Powers(u, work, odd)).Scaled(halved)
}

// odd tells how to come from 1 over 2 k - 1 to 1 over 2 k + 1.
func odd(k int) (int, int) { return 2*k - 1, 2*k + 1 }

// logarithm of x, which is above 0: of a number from 3/4 on below 3/2, and of a power of 2. So 1 and all beside it have
// 2 to the power of 0, and nowhere else do both nearly make 0.
func logarithm(x long.Dyad, work int) span.Span {
	power := x.Top()
	if x.Compare(long.Whole(3).Scaled(power-2)) < 0 {
		power--
	}
	s := logarithmBesideOne(x.Scaled(-power), work)
	if power == 0 {
		return s
	}
	all := sums.Ln2(work).Times(span.Whole(max(power, -power)))
	if power < 0 {
		all = all.Opposite()
	}
	return s.Plus(all)
}

// logarithmBesideOne is that of x, which is from 3/4 on below 3/2.
func logarithmBesideOne(x long.Dyad, work int) span.Span {
	one := long.Whole(1)
	z := span.Of(x.Minus(one)).Over(span.Of(x.Plus(one)), work)
	return z.Times(sums.Powers(z.Times(z).Cut(work), work, odd)).Scaled(1)
}
