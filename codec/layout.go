package codec

import (
	"slices"

	"slipstick/api"
	"slipstick/family"
)

// layout of a format's patterns. Behind the sign and E all the other bits are F.
type layout struct {
	api.Grid
	size     int // in bytes
	exponent int // bits of E
	family   family.Family
	// turn makes of bytes as they lie those with the greatest first, in their place; who turns twice has done nothing.
	turn func(bytes []byte)
}

// layouts of all formats; that of none is all zero.
func layouts() [api.FormatVaxG + 1]layout {
	greatestFirst := func([]byte) {}
	lowestFirst := func(bytes []byte) { slices.Reverse(bytes) }
	words := func(bytes []byte) {
		for i := 0; i+1 < len(bytes); i += 2 {
			bytes[i], bytes[i+1] = bytes[i+1], bytes[i]
		}
	}
	return [...]layout{
		api.FormatSingle:   {api.Grid{Radix: 2, Digits: 24, Least: -149, Greatest: 104, Gradual: true}, 4, 8, family.A, greatestFirst},
		api.FormatDouble:   {api.Grid{Radix: 2, Digits: 53, Least: -1074, Greatest: 971, Gradual: true}, 8, 11, family.A, greatestFirst},
		api.FormatExtended: {api.Grid{Radix: 2, Digits: 64, Least: -16445, Greatest: 16320, Gradual: true}, 10, 15, family.A, lowestFirst},
		api.FormatHexShort: {api.Grid{Radix: 16, Digits: 6, Least: -70, Greatest: 57}, 4, 7, family.B, greatestFirst},
		api.FormatHexLong:  {api.Grid{Radix: 16, Digits: 14, Least: -78, Greatest: 49}, 8, 7, family.B, greatestFirst},
		api.FormatVaxF:     {api.Grid{Radix: 2, Digits: 24, Least: -151, Greatest: 103}, 4, 8, family.C, words},
		api.FormatVaxD:     {api.Grid{Radix: 2, Digits: 56, Least: -183, Greatest: 71}, 8, 8, family.C, words},
		api.FormatVaxG:     {api.Grid{Radix: 2, Digits: 53, Least: -1076, Greatest: 970}, 8, 11, family.C, words},
	}
}

// layoutOf a format.
func layoutOf(format int) (layout, api.Errno) {
	if family.Of(format) == 0 {
		return layout{}, api.ErrKind
	}
	return layouts()[format], api.OK
}

// fields of a pattern: its sign, E and F.
type fields struct {
	neg      bool
	exponent int
	fraction uint64
}

// fraction is how many bits F has.
func (l layout) fraction() int { return 8*l.size - 1 - l.exponent }

// read the fields of a pattern that has as many bytes as it must have.
func (l layout) read(s string) fields {
	bytes := []byte(s)
	l.turn(bytes)
	return fields{
		neg:      bits(bytes, 0, 1) == 1,
		exponent: int(bits(bytes, 1, l.exponent)),
		fraction: bits(bytes, 1+l.exponent, l.fraction()),
	}
}

// write a pattern.
func (l layout) write(f fields) string {
	bytes := make([]byte, l.size)
	if f.neg {
		setBits(bytes, 0, 1, 1)
	}
	setBits(bytes, 1, l.exponent, uint64(f.exponent))
	setBits(bytes, 1+l.exponent, l.fraction(), f.fraction)
	l.turn(bytes)
	return string(bytes)
}

// bits of bytes with the greatest first: so many, from one on, counted from the uppermost.
func bits(bytes []byte, from, count int) uint64 {
	x := uint64(0)
	for i := from; i < from+count; i++ {
		x = x<<1 | uint64(bytes[i/8]>>(7-i%8)&1)
	}
	return x
}

// setBits sets those bits, which must not be set yet, as the lowest ones of x are.
func setBits(bytes []byte, from, count int, x uint64) {
	for i := from + count - 1; i >= from; i-- {
		bytes[i/8] |= byte(x&1) << (7 - i%8)
		x >>= 1
	}
}
