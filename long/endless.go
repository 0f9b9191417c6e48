package long

import "slipstick/digits"

// Quotients and roots mostly have no end, and that of a sum may be far away. What stands here for one has at least so many
// bits of it, and behind them one bit more, that is set if anything is left: it lies where the number lies, on one of
// those with so many bits, or between the same two of them. So to cut it, to so many bits or fewer, is to cut the number.

// endless is a mantissa times 2 to the power of exp, and a little more than that if something is left.
func endless(neg bool, mantissa digits.Number, exp int, left bool) Dyad {
	mantissa = mantissa.Shifted(1)
	if left {
		mantissa = mantissa.Plus(digits.Number{1})
	}
	return New(neg, mantissa, exp-1)
}

// Kept stands for a, as far as so many bits tell.
func (a Dyad) Kept(bits int) Dyad {
	spare := a.Digits().Bits() - bits
	if spare <= 0 {
		return a
	}
	return endless(a.Neg, a.Digits().Shifted(-spare), a.Exp+spare, a.Digits().Twos() < spare)
}

// Over stands for a over b, which must not be 0, as far as so many bits tell.
func (a Dyad) Over(b Dyad, bits int) Dyad {
	shift := max(0, bits+b.Digits().Bits()-a.Digits().Bits())
	often, rest := a.Digits().Shifted(shift).Over(b.Digits())
	return endless(a.Neg != b.Neg, often, a.Exp-b.Exp-shift, len(rest) > 0)
}

// Root stands for the root of a, which must not be below 0, as far as so many bits tell.
func (a Dyad) Root(bits int) Dyad {
	shift := max(0, 2*bits-a.Digits().Bits())
	// Of an odd power of 2 there is no root among them.
	if (a.Exp-shift)%2 != 0 {
		shift++
	}
	whole := a.Digits().Shifted(shift)
	root := whole.Root(2)
	return endless(false, root, (a.Exp-shift)/2, root.Times(root).Compare(whole) < 0)
}
