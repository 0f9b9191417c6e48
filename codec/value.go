package codec

import (
	"slipstick/api"
	"slipstick/digits"
	"slipstick/family"
)

// ones is E with all its bits set.
func (l layout) ones() int { return 1<<l.exponent - 1 }

// lead is the first bit of a D that is whole, to the base of 2.
func (l layout) lead() uint64 { return 1 << (l.Digits - 1) }

// written is the first bit, if it has a place in F; else it is only thought of, and 0 stands here.
func (l layout) written() uint64 {
	if l.fraction() < l.Digits {
		return 0
	}
	return l.lead()
}

// class of a pattern.
func (l layout) class(f fields) int {
	switch l.family {
	case family.A:
		return l.classWithInfinite(f)
	case family.B:
		return zeroOrNumber(f.fraction == 0)
	}
	if f.neg && f.exponent == 0 {
		return api.ClassReserved
	}
	return zeroOrNumber(f.exponent == 0)
}

func zeroOrNumber(zero bool) int {
	if zero {
		return api.ClassZero
	}
	return api.ClassNumber
}

// classWithInfinite is the class of a pattern of family A.
func (l layout) classWithInfinite(f fields) int {
	switch {
	case f.exponent == 0:
		return zeroOrNumber(f.fraction == 0)
	case f.exponent == l.ones() && f.fraction == l.written():
		return api.ClassInfinite
	case f.exponent == l.ones() || f.fraction&l.written() != l.written():
		return api.ClassNone
	}
	return api.ClassNumber
}

// value of a pattern.
func (l layout) value(f fields) api.Value {
	v := api.Value{Class: l.class(f)}
	switch v.Class {
	case api.ClassNumber:
		d, power := l.place(f)
		for d%uint64(l.Radix) == 0 {
			d /= uint64(l.Radix)
			power++
		}
		v.Neg, v.Digits, v.Power = f.neg, api.Nat(digits.FromWord(d)), power
	case api.ClassZero, api.ClassInfinite:
		v.Neg = f.neg
	}
	return v
}

// place of a number: its D, and the power that belongs to it.
func (l layout) place(f fields) (uint64, int) {
	switch {
	case l.Radix == 16:
		return f.fraction, l.Least + f.exponent
	case f.exponent == 0:
		return f.fraction, l.Least
	}
	return f.fraction | l.lead(), l.Least + f.exponent - 1
}

// fieldsOf a place that the grid has. (Of a first bit that is only thought of, write drops what is there.)
func (l layout) fieldsOf(p api.Place) fields {
	f := fields{p.Neg, p.Power - l.Least, digits.Number(p.Digits).Word()}
	if l.Radix == 2 && f.fraction&l.lead() != 0 {
		// E that is 0 is kept for what has no first bit.
		f.exponent++
	}
	return f
}

// special are the fields of what is no number, without a sign that it may have or not; false: the format has no such class.
func (l layout) special(class int) (fields, bool) {
	switch {
	case class == api.ClassZero:
		return fields{}, true
	case class == api.ClassInfinite && l.family == family.A:
		return fields{exponent: l.ones(), fraction: l.written()}, true
	case class == api.ClassNone && l.family == family.A:
		return fields{exponent: l.ones(), fraction: l.written() | l.lead()>>1}, true
	case class == api.ClassReserved && l.family == family.C:
		return fields{neg: true}, true
	}
	return fields{}, false
}

// signed tells whether what is no number may be encoded with a sign.
func (l layout) signed(class int) bool {
	return class == api.ClassInfinite || class == api.ClassZero && l.family != family.C
}
