package digits

import "math/bits"

// Over tells how often b is in a, and what is left. b must not be 0.
func (a Number) Over(b Number) (Number, Number) {
	if a.Compare(b) < 0 {
		return nil, a.Copy()
	}
	if len(b) == 1 {
		often := a.Copy()
		rest := often.divideBy(b[0])
		return trim(often), trim(Number{rest})
	}
	return a.longOver(b)
}

// divideBy divides a in its place by one digit, and tells what is left. (Noughts may come to stand at its upper end.)
func (a Number) divideBy(d uint32) uint32 {
	rest := uint32(0)
	for i := len(a) - 1; i >= 0; i-- {
		a[i], rest = bits.Div32(rest, a[i], d)
	}
	return rest
}

// longOver divides digit by digit, as one does by hand. Both are shifted first, until b's uppermost bit is set: only then
// are the uppermost digits enough to guess each digit of the quotient by at most one too many.
func (a Number) longOver(b Number) (Number, Number) {
	shift := bits.LeadingZeros32(b[len(b)-1])
	by := b.raised(shift)
	rest := make(Number, len(a)+1)
	copy(rest, a.raised(shift))
	often := make(Number, len(rest)-len(by))
	for i := len(often) - 1; i >= 0; i-- {
		part := rest[i : i+len(by)+1]
		digit := guess(part, by)
		if part.takeTimes(by, digit) {
			digit--
			part.putBack(by)
		}
		often[i] = digit
	}
	return trim(often), trim(rest).lowered(shift)
}

// guess how often by is in part, which has one digit more: it is that, or one more than that.
func guess(part, by Number) uint32 {
	n := len(by)
	first, second := uint64(by[n-1]), uint64(by[n-2])
	top := uint64(part[n])<<width | uint64(part[n-1])
	digit, rest := top/first, top%first
	for digit >= 1<<width || digit*second > rest<<width|uint64(part[n-2]) {
		digit--
		rest += first
		if rest >= 1<<width {
			break
		}
	}
	return uint32(digit)
}

// takeTimes takes by, so many times, from part in its place, and tells whether that was too much.
func (part Number) takeTimes(by Number, times uint32) bool {
	carry, borrow := uint64(0), uint32(0)
	for i, x := range by {
		carry += uint64(x) * uint64(times)
		part[i], borrow = bits.Sub32(part[i], uint32(carry), borrow)
		carry >>= width
	}
	top := len(by)
	part[top], borrow = bits.Sub32(part[top], uint32(carry), borrow)
	return borrow != 0
}

// putBack adds by to part in its place; what is carried beyond its end makes good what takeTimes borrowed there.
func (part Number) putBack(by Number) {
	carry := uint32(0)
	for i, x := range by {
		part[i], carry = bits.Add32(part[i], x, carry)
	}
	part[len(by)] += carry
}
