package text

import (
	"strconv"

	"slipstick/api"
	"slipstick/digits"
)

// decimal stands for a number that is not 0, as far as its first digits tell, of which it has more than are ever printed.
type decimal struct {
	neg bool
	// halves is the whole number that these digits make, twice, and one more, if anything is left behind them: so it lies
	// where the number lies, on what is halfway between two that can be printed, or on the same side of it.
	halves digits.Number
	count  int // of these digits
	power  int // of ten, of the first one
}

// decimalOf a number that is not 0.
func decimalOf(x api.Dyad) decimal {
	guess := powerBelow(digits.Number(x.Mantissa).Bits() - 1 + x.Exp)
	whole, left := scaled(x, maxDigits-guess)
	count := len(whole.Decimal())
	halves := whole.Shifted(1)
	if left {
		halves = halves.Plus(digits.Number{1})
	}
	return decimal{x.Neg, halves, count, guess + count - 1 - maxDigits}
}

// powerBelow is a power of ten that is not more than 2 to the power of n, and not far below it.
func powerBelow(n int) int {
	// 2 is ten to the power of 0.30103, nearly; one less makes good what is lost by that, and at the point.
	return n*30103/100000 - 1
}

// scaled is the whole number in x, without its sign, times ten to the power of n, and whether something is left.
func scaled(x api.Dyad, n int) (digits.Number, bool) {
	num, den, twos := digits.Number(x.Mantissa), digits.Number{1}, x.Exp+n
	if n > 0 {
		num = num.Times(fives(n))
	} else {
		den = fives(-n)
	}
	if twos > 0 {
		num = num.Shifted(twos)
	} else {
		den = den.Shifted(-twos)
	}
	whole, rest := num.Over(den)
	return whole, len(rest) > 0
}

// print by n digits, rounded to the nearest, halves to what is even.
func (d decimal) print(n int) string {
	unit := digits.Number{10}.Power(d.count - n).Shifted(1)
	first, rest := d.halves.Over(unit)
	if c := rest.Shifted(1).Compare(unit); c > 0 || c == 0 && first.Odd() {
		first = first.Plus(digits.Number{1})
	}
	text, power := first.Decimal(), d.power
	if len(text) > n {
		// Nines became a one and noughts.
		text, power = text[:n], power+1
	}
	if n > 1 {
		text = text[:1] + "." + text[1:]
	}
	if d.neg {
		text = "-" + text
	}
	return text + "e" + strconv.Itoa(power)
}
