// Package digits reckons with natural numbers that may be of any length. It asks nothing of what it is handed: the
// layers above look at numbers ahead of handing them on, and at how long an answer became.
package digits

import (
	"cmp"
	"math/bits"
)

// Number is digits to the base of 2 to the power of 32, the lowest first; the last one is not 0. No answer shares memory
// with what it was made of.
type Number []uint32

// width is how many bits a digit has.
const width = 32

// trim drops noughts at the upper end, so that the last digit is not 0.
func trim(a Number) Number {
	n := len(a)
	for n > 0 && a[n-1] == 0 {
		n--
	}
	return a[:n]
}

// Copy of a number.
func (a Number) Copy() Number {
	c := make(Number, len(a))
	copy(c, a)
	return c
}

// FromWord is the number that a word is.
func FromWord(x uint64) Number { return trim(Number{uint32(x), uint32(x >> width)}) }

// Word is a number that has at most 64 bits.
func (a Number) Word() uint64 {
	x := uint64(0)
	for i := len(a) - 1; i >= 0; i-- {
		x = x<<width | uint64(a[i])
	}
	return x
}

// Compare answers -1, 0 or 1, as a is less than b, the same, or more.
func (a Number) Compare(b Number) int {
	if c := cmp.Compare(len(a), len(b)); c != 0 {
		return c
	}
	for i := len(a) - 1; i >= 0; i-- {
		if c := cmp.Compare(a[i], b[i]); c != 0 {
			return c
		}
	}
	return 0
}

// Bits up to the uppermost one that is set.
func (a Number) Bits() int {
	if len(a) == 0 {
		return 0
	}
	top := len(a) - 1
	return width*top + bits.Len32(a[top])
}

// Twos is how often 2 is a factor; of 0, of which it is one without an end: 0.
func (a Number) Twos() int {
	for i, x := range a {
		if x != 0 {
			return width*i + bits.TrailingZeros32(x)
		}
	}
	return 0
}

// Odd tells whether a is odd.
func (a Number) Odd() bool { return len(a) > 0 && a[0]%2 == 1 }

// Plus is a and b together.
func (a Number) Plus(b Number) Number {
	if len(a) < len(b) {
		a, b = b, a
	}
	sum := make(Number, len(a)+1)
	carry := uint32(0)
	for i, y := range b {
		sum[i], carry = bits.Add32(a[i], y, carry)
	}
	for i := len(b); i < len(a); i++ {
		sum[i], carry = bits.Add32(a[i], 0, carry)
	}
	sum[len(a)] = carry
	return trim(sum)
}

// Minus is a less b, which must not be more than a.
func (a Number) Minus(b Number) Number {
	rest := make(Number, len(a))
	borrow := uint32(0)
	for i, y := range b {
		rest[i], borrow = bits.Sub32(a[i], y, borrow)
	}
	for i := len(b); i < len(a); i++ {
		rest[i], borrow = bits.Sub32(a[i], 0, borrow)
	}
	return trim(rest)
}

// Times is a times b.
func (a Number) Times(b Number) Number {
	product := make(Number, len(a)+len(b))
	for i, x := range a {
		carry := uint64(0)
		for j, y := range b {
			carry += uint64(x)*uint64(y) + uint64(product[i+j])
			product[i+j] = uint32(carry)
			carry >>= width
		}
		product[i+len(b)] = uint32(carry)
	}
	return trim(product)
}

// Power is a times itself, n times in all (of n = 0: 1).
func (a Number) Power(n int) Number {
	power := Number{1}
	for i := bits.Len(uint(n)) - 1; i >= 0; i-- {
		power = power.Times(power)
		if n>>i%2 == 1 {
			power = power.Times(a)
		}
	}
	return power
}

// Shifted is a times 2 to the power of n, without what is behind the point then.
func (a Number) Shifted(n int) Number {
	if n < 0 {
		return a.lowered(-n)
	}
	return a.raised(n)
}

func (a Number) raised(n int) Number {
	if len(a) == 0 {
		return nil
	}
	whole, part := n/width, n%width
	up := make(Number, len(a)+whole+1)
	for i, x := range a {
		up[whole+i] |= x << part
		up[whole+i+1] = x >> (width - part)
	}
	return trim(up)
}

func (a Number) lowered(n int) Number {
	whole, part := n/width, n%width
	if whole >= len(a) {
		return nil
	}
	down := make(Number, len(a)-whole)
	for i := range down {
		down[i] = a[whole+i] >> part
		if whole+i+1 < len(a) {
			down[i] |= a[whole+i+1] << (width - part)
		}
	}
	return trim(down)
}
