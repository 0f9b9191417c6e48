package elem

import (
	"math/big"
	"strings"
	"testing"

	"slipstick/api"
	"slipstick/codec"
)

// others are patterns of a format that are no numbers: 0, what is infinite, what is no number, and reserved ones, each in
// all forms that it has.
func others(t *testing.T, format int) []string {
	t.Helper()
	size := sizeOf(t, format)
	rest := func(first string) string { return first + strings.Repeat("\x00", size-len(first)) }
	list := []string{rest("")}
	switch format {
	case api.FormatSingle:
		list = append(list, rest("\x80"), rest("\x7f\x80"), rest("\xff\x80"), rest("\x7f\xc0"), rest("\xff\xc0\x12"), "\x7f\x80\x00\x01")
	case api.FormatDouble:
		list = append(list, rest("\x80"), rest("\x7f\xf0"), rest("\xff\xf0"), rest("\x7f\xf8"), rest("\xff\xf8\x12"), rest("\x7f\xf0\x00\x01"))
	case api.FormatExtended:
		for _, x := range []string{"00000000000000000080", "0000000000000080ff7f", "0000000000000080ffff", "00000000000000c0ff7f", "00000000000000c0ffff",
			"0000000000000000ff7f", "0100000000000080ff7f", "00000000000000400040", "000000000000000001c0"} {
			list = append(list, bytesOf(t, x))
		}
	case api.FormatHexShort, api.FormatHexLong:
		list = append(list, rest("\x80"), rest("\x41"), rest("\xc1"), rest("\x7f"), rest("\xff"))
	default:
		// An E of 8 bits ends ahead of the uppermost bit of the first byte, one of 11 at its fifth.
		list = append(list, rest("\x01"), rest("\x00\x00\xff"), rest("\x00\x80"), rest("\x01\x80\x12"), rest("\x0f"), rest("\x0f\x80"))
	}
	return list
}

// beside a pattern, as far as there is something: the next ones on both sides, and itself.
func besides(format int, s string) []string {
	list := []string{s}
	for _, up := range []bool{false, true} {
		if next, e := codec.Next(format, s, up); e == api.OK {
			list = append(list, next)
		}
	}
	return list
}

// withOpposites are patterns of numbers, and of their opposites.
func withOpposites(t *testing.T, format int, list []string) []string {
	t.Helper()
	for _, s := range list {
		v, e := codec.Decode(format, s)
		if e != api.OK || v.Class != api.ClassNumber {
			continue
		}
		v.Neg = !v.Neg
		if p, e := codec.Encode(format, v); e == api.OK {
			list = append(list, p)
		}
	}
	return list
}

// plain numbers.
func plain(t *testing.T, format int) []string {
	t.Helper()
	var list []string
	for _, x := range []float64{2, 0.5, 0.25, 3, 1.5, 10, 20, 37.5, 100, 700, 1000.25, 4096} {
		list = append(list, patternOf(t, format, x))
	}
	for _, x := range []string{"0.001", "1e-10", "0.1", "0.7", "1e30", "1e-30", "88.7", "1e20"} {
		y, _ := pen(plenty).fresh().SetString(x)
		list = append(list, nearestTo(format, y))
	}
	return withOpposites(t, format, list)
}

// edges of a format: its least and its greatest numbers, 1 and what is beside it, powers of 2 and beside them, and numbers
// that the grid has not.
func edges(t *testing.T, format int) []string {
	t.Helper()
	g := gridOf(t, format)
	number := func(d *big.Int, power int) string {
		return encoded(t, format, api.Value{Class: api.ClassNumber, Digits: natOf(d), Power: power})
	}
	first := new(big.Int).Lsh(big.NewInt(1), uint(width(g)*(g.Digits-1)))
	list := []string{greatestOf(t, format, false)}
	list = append(list, besides(format, number(first, g.Least))...)
	list = append(list, besides(format, number(first, g.Greatest))...)
	for _, power := range []float64{1, 2, 0.5, 16, 1.0 / 16, 1 << 30, 1.0 / (1 << 40)} {
		list = append(list, besides(format, patternOf(t, format, power))...)
	}
	size := sizeOf(t, format)
	switch {
	case g.Gradual:
		list = append(list, number(big.NewInt(1), g.Least), number(big.NewInt(2), g.Least), number(big.NewInt(5), g.Least+1))
	case g.Radix == 16:
		list = append(list, "\x42\x01"+strings.Repeat("\x00", size-2), "\x00\x00\x01"+strings.Repeat("\x00", size-3), "\x00"+strings.Repeat("\x00", size-2)+"\x01",
			"\x45"+strings.Repeat("\x00", size-2)+"\x03")
	}
	if format == api.FormatExtended {
		list = append(list, bytesOf(t, "00000000000000800000"), bytesOf(t, "01000000000000c00000"))
	}
	return withOpposites(t, format, list)
}

// wholes are whole numbers of which the powers of 2 are at the bounds of a grid, and numbers beside them; and logarithms of
// these bounds.
func wholes(t *testing.T, format int) []string {
	t.Helper()
	g := gridOf(t, format)
	p := pen(plenty)
	end := width(g) * (g.Greatest + g.Digits)
	begin := width(g) * (g.Least + g.Digits - 1)
	last := width(g) * g.Least
	var list []string
	for _, n := range []int{end - 1, end, end + 1, begin - 1, begin, begin + 1, last - 2, last - 1, last, last + 1, begin - width(g), 17000, -17000, 20001, -20001, 1 << 20, -1 << 20} {
		x := p.whole(int64(n))
		list = append(list, besides(format, nearestTo(format, x))...)
		list = append(list, besides(format, nearestTo(format, p.fresh().Mul(x, p.log(p.whole(2)))))...)
	}
	// Where e to the power of x is beyond all formats, and the kernel reckons it no more.
	for _, n := range []int64{11400, 12000, 12001, 12500} {
		list = append(list, besides(format, nearestTo(format, p.whole(n)))...)
		list = append(list, besides(format, nearestTo(format, p.whole(-n)))...)
	}
	return list
}

// turns are angles near to some quarters of a circle, and great ones.
func turns(t *testing.T, format int) []string {
	t.Helper()
	p := pen(plenty)
	quarter := p.scaled(p.pi(), -1)
	var list []string
	for _, n := range []int64{1, 2, 3, 4, 7, 355, 1 << 20} {
		list = append(list, nearestTo(format, p.fresh().Mul(quarter, p.whole(n))))
	}
	if format == api.FormatExtended {
		for _, s := range besides(format, nearestTo(format, p.scaled(p.whole(1), 1200))) {
			list = append(list, s)
		}
		list = append(list, nearestTo(format, p.scaled(p.whole(1), 1199)), nearestTo(format, p.scaled(p.whole(3), 700)))
	}
	return withOpposites(t, format, list)
}

// steps are numbers very near to 0, or such ones beside which a function very nearly is a number of the grid.
func steps(t *testing.T, format int) []string {
	t.Helper()
	g := gridOf(t, format)
	p := pen(plenty)
	digits := width(g) * g.Digits
	var list []string
	for _, n := range []int{digits/2 - 1, digits / 2, digits - 3, digits, digits + 1, digits + 7, 60, 61, 64, 65, 90} {
		little := p.scaled(p.whole(1), -n)
		more := p.fresh().Add(p.whole(1), little)
		// The powers of these are very near to 1 and a little.
		list = append(list, nearestTo(format, little), nearestTo(format, p.log(more)), nearestTo(format, p.fresh().Quo(p.log(more), p.log(p.whole(2)))))
		// And so are the logarithms of these to a little.
		list = append(list, nearestTo(format, p.expm1(little)))
	}
	return withOpposites(t, format, list)
}

// drawn patterns.
func drawn(t *testing.T, format, count int) []string {
	t.Helper()
	d := draw(format)
	g := gridOf(t, format)
	var list []string
	for i := range count {
		s := d.bytes(sizeOf(t, format))
		if i%3 > 0 {
			// Most patterns are far from 1: of these here many functions are something.
			n := new(big.Int).SetUint64(uint64(d.below(1<<31))<<31 | uint64(d.below(1<<31)) | 1)
			n.Rsh(n, uint(max(0, 62-width(g)*g.Digits+4)))
			x := pen(plenty).fresh().SetInt(n)
			x.SetMantExp(x, d.below(24)-12-n.BitLen())
			if s = nearestTo(format, x); i%2 > 0 {
				x.Neg(x)
				s = nearestTo(format, x)
			}
		}
		list = append(list, s)
	}
	return list
}

// patterns of a format: all of these.
func patterns(t *testing.T, format int) []string {
	t.Helper()
	list := others(t, format)
	for _, more := range [][]string{plain(t, format), edges(t, format), wholes(t, format), turns(t, format), steps(t, format), drawn(t, format, 60)} {
		list = append(list, more...)
	}
	return list
}
