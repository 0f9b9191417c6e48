package digits

import "slices"

// Decimal digits are taken in groups, of as many as one digit of a Number can hold.
const (
	groupDigits = 9
	groupBase   = 1000000000
)

// Decimal digits of a number, without noughts ahead (0 is "0").
func (a Number) Decimal() string {
	if len(a) == 0 {
		return "0"
	}
	var lowestFirst []byte
	for rest := a.Copy(); len(rest) > 0; rest = trim(rest) {
		group := rest.divideBy(groupBase)
		for range groupDigits {
			lowestFirst = append(lowestFirst, byte('0'+group%10))
			group /= 10
		}
	}
	n := len(lowestFirst)
	for lowestFirst[n-1] == '0' {
		n--
	}
	text := lowestFirst[:n]
	slices.Reverse(text)
	return string(text)
}

// FromDecimal is the number of a text, in which there must be nothing but decimal digits.
func FromDecimal(s string) Number {
	var a Number
	for len(s) > 0 {
		n := (len(s)-1)%groupDigits + 1
		group, scale := uint32(0), uint32(1)
		for i := range n {
			group = group*10 + uint32(s[i]-'0')
			scale *= 10
		}
		a = a.grow(scale, group)
		s = s[n:]
	}
	return a
}

// grow makes a, in its place, scale times what it was, and more.
func (a Number) grow(scale, more uint32) Number {
	carry := uint64(more)
	for i, x := range a {
		carry += uint64(x) * uint64(scale)
		a[i] = uint32(carry)
		carry >>= width
	}
	if carry > 0 {
		a = append(a, uint32(carry))
	}
	return a
}
