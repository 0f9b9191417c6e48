package elem

import (
	"slipstick/api"
	"slipstick/kernel"
	"slipstick/long"
	"slipstick/span"
	"slipstick/sums"
)

// spare bits with which sums are reckoned: more than what is lost on the way.
const spare = 32

// Bounds within which the sums here, and the kernel, reckon.
const (
	farthest      = 17000 // 2 to this power is beyond all grids, either way
	greatestPower = 12000 // e to this power is, too
	smallest      = 16    // numbers below 2 to the power of -smallest are small
	greatest      = 1000  // 1 and a number that is not small, and below 2 to this power, are not too long
)

// far tells whether 2 to the power of x is beyond all grids.
func far(x long.Dyad) bool { return x.Size().Compare(long.Whole(farthest)) > 0 }

// beyond all grids is this number, far from 0 or (near) next to it: it is rounded as all others there are.
func beyond(near bool) long.Dyad {
	if near {
		return long.Whole(1).Scaled(-farthest)
	}
	return long.Whole(1).Scaled(farthest)
}

// allBeyond are such numbers.
func allBeyond(near bool) span.Span {
	return span.Span{Low: beyond(near), High: beyond(near).Scaled(1)}
}

// ballSpan is a ball of the kernel. There is no error: patterns have few bits, and whoever asks keeps to its bounds.
func ballSpan(a api.Ball, _ api.Errno) span.Span {
	return span.Span{Low: long.Of(a.Low), High: long.Of(a.High)}
}

// of one of the kernel's functions, that is all there is to reckon.
func of(call func(x api.Dyad, bits int) (api.Ball, api.Errno)) func(x long.Dyad, bits int) span.Span {
	return func(x long.Dyad, bits int) span.Span { return ballSpan(call(x.Dyad, bits)) }
}

// tooGreatForExp tells whether e to the power of x is beyond all grids.
func tooGreatForExp(x long.Dyad) bool { return x.Size().Compare(long.Whole(greatestPower)) > 0 }

func exp(x long.Dyad, bits int) span.Span {
	if tooGreatForExp(x) {
		return allBeyond(x.Neg)
	}
	return ballSpan(kernel.Exp(x.Dyad, bits))
}

// whole number n.
func whole(n int) long.Dyad {
	x := long.Whole(max(n, -n))
	x.Neg = n < 0
	return x
}

// nearest whole number to x, which is not far.
func nearest(x long.Dyad) int {
	more := x.Size().Plus(long.Whole(1).Scaled(-1))
	n := int(more.Digits().Shifted(more.Exp).Word())
	if x.Neg {
		return -n
	}
	return n
}

// exp2 is a power of 2, times e to the power of ln 2 times what is left: that is not more than a half, as the sum asks.
func exp2(x long.Dyad, bits int) span.Span {
	if far(x) {
		return allBeyond(x.Neg)
	}
	work := bits + spare
	n := nearest(x)
	rest := span.Of(x.Minus(whole(n))).Times(sums.Ln2(work)).Cut(work)
	return sums.Powers(rest, work, func(k int) (int, int) { return 1, k }).Scaled(n)
}

func log2(x long.Dyad, bits int) span.Span {
	work := bits + spare
	return ballSpan(kernel.Log(x.Dyad, bits)).Over(sums.Ln2(work), work)
}

// expm1 of a number that is not below a half, without its sign, loses two bits at most, when 1 is taken away. (Far below 0
// nothing is left but that it is more than -1: the rest is cut off.)
func expm1(x long.Dyad, bits int) span.Span {
	work := bits + spare
	switch {
	case x.Top() < 0:
		return span.Of(x).Times(sums.Powers(span.Of(x), work, func(k int) (int, int) { return 1, k + 1 }))
	case tooGreatForExp(x) && !x.Neg:
		return allBeyond(false)
	}
	return exp(x, bits).Minus(span.Whole(1)).Cut(work)
}

// log1p of a number that is small must not be reckoned by 1 and x, which would be too long; nor need that of a great one,
// of which 1 over x is all that is left out.
func log1p(x long.Dyad, bits int) span.Span {
	work := bits + spare
	switch {
	case x.Top() <= -smallest:
		return span.Of(x).Times(sums.Powers(span.Of(x).Opposite(), work, func(k int) (int, int) { return k, k + 1 }))
	case x.Top() > greatest:
		left := span.Span{High: long.Whole(1).Scaled(-greatest)}
		return ballSpan(kernel.Log(x.Dyad, bits)).Plus(left).Cut(work)
	}
	return ballSpan(kernel.Log(x.Plus(long.Whole(1)).Dyad, bits))
}
