package sums

import (
	"slipstick/digits"
	"slipstick/long"
	"slipstick/span"
)

// Atanh of 1 over n, which is from 2 to 65535, by so many bits behind the point.
func Atanh(n, work int) span.Span { return inverse(n, work, 0) }

// Atan of 1 over n, which is from 2 to 65535, by so many bits behind the point.
func Atan(n, work int) span.Span { return inverse(n, work, 1) }

// inverse adds up 1 over k times n to the power of k, for odd k; each second term is taken away, if turn is 1. All is
// whole numbers of units of 2 to the power of -work. Each power is below the true one by less than 1 and what is left of
// that of the one ahead of it, a quarter at most: by less than 4/3. So each term is wrong by less than 3; and behind the
// last one all that is left is less than 3, too.
func inverse(n, work, turn int) span.Span {
	base := digits.Number{uint32(n)}
	power, _ := digits.Number{1}.Shifted(work).Over(base)
	var sums [2]digits.Number
	wrong := 3
	for i := 0; len(power) > 0; i++ {
		term, _ := power.Over(digits.Number{uint32(2*i + 1)})
		side := turn * (i % 2)
		sums[side] = sums[side].Plus(term)
		power, _ = power.Over(base.Times(base))
		wrong += 3
	}
	sum := long.New(false, sums[0].Minus(sums[1]), 0)
	s := span.Span{Low: sum.Minus(long.Whole(wrong)), High: sum.Plus(long.Whole(wrong))}
	return s.Scaled(-work)
}

// Pi by some bits less than so many behind the point.
func Pi(work int) span.Span {
	return Atan(5, work).Scaled(4).Minus(Atan(239, work).Scaled(2))
}

// Ln2 by some bits less than so many behind the point.
func Ln2(work int) span.Span {
	most, some, rest := Atanh(26, work).Times(span.Whole(18)), Atanh(4801, work).Scaled(1), Atanh(8749, work).Scaled(3)
	return most.Minus(some).Plus(rest)
}
