package elem

import (
	"math"
	"math/big"
	"slices"
	"strings"
	"testing"

	"slipstick/api"
	"slipstick/codec"
	"slipstick/grid"
	"slipstick/worth"
)

// inAll runs a test for each format, all at once.
func inAll(t *testing.T, test func(t *testing.T, format int)) {
	for format := firstFormat; format <= lastFormat; format++ {
		t.Run("format "+string(rune('0'+format)), func(t *testing.T) {
			t.Parallel()
			test(t, format)
		})
	}
}

// held asks that a call answers what the chapter says of a pattern by each way, and by 600 bits always something.
func held(t *testing.T, kind, format int, s string) {
	t.Helper()
	want := asked(t, kind, format, s)
	for way := firstWay; way <= lastWay; way++ {
		if got := call(kind, format, s, way, 600); got != want.by(way) {
			t.Errorf("kind %d of %x of %d by %d: %x, and must be %x", kind, s, format, way, got, want.by(way))
		}
	}
}

func TestK2ToK4EachKindOfEachFormat(t *testing.T) {
	inAll(t, func(t *testing.T, format int) {
		for _, s := range patterns(t, format) {
			for kind := firstKind; kind <= lastKind; kind++ {
				held(t, kind, format, s)
			}
		}
	})
}

// Digits that anyone may look up, cut down to FormatDouble.
func TestK1KnownDigits(t *testing.T) {
	for _, c := range []struct {
		kind int
		x    float64
		want string
	}{
		{api.KindExp, 1, "2.718281828459045235360287471352662"},
		{api.KindLog, 10, "2.302585092994045684017991454684364"},
		{api.KindSin, 1, "0.841470984807896506652502321630299"},
		{api.KindCos, 1, "0.540302305868139717400936607442977"},
		{api.KindArctan, 1, "0.785398163397448309615660845819876"},
		{api.KindExp2, 0.5, "1.414213562373095048801688724209698"},
		{api.KindLog2, 10, "3.321928094887362347870319429489390"},
		{api.KindExpm1, 1, "1.718281828459045235360287471352662"},
		{api.KindLog1p, 1, "0.693147180559945309417232121458177"},
	} {
		want, _ := new(big.Float).SetPrec(53).SetMode(big.ToZero).SetString(c.want)
		x, _ := want.Float64()
		got := call(c.kind, api.FormatDouble, patternOf(t, api.FormatDouble, c.x), api.RoundDown, 200)
		if (got != told{patternOf(t, api.FormatDouble, x), api.FlagInexact, api.OK}) {
			t.Errorf("kind %d of %v: %x", c.kind, c.x, got)
		}
	}
}

func TestK2Example(t *testing.T) {
	if got := call(api.KindExp, api.FormatSingle, "\x00\x00\x00\x00", api.RoundEven, 64); got != (told{"\x3f\x80\x00\x00", 0, api.OK}) {
		t.Errorf("Exp of 0: %x", got)
	}
}

func refused(t *testing.T, what string, got told, want api.Errno) {
	t.Helper()
	if got != (told{e: want}) {
		t.Errorf("%s: %x, and must be error %d alone", what, got, want)
	}
}

// Each error is told ahead of all that stand behind it.
func TestK2Errors(t *testing.T) {
	great := bytesOf(t, "00000000000000800050") // of FormatExtended: beyond all angles
	for _, wrong := range wrongs {
		for _, way := range []int{1, 0} {
			for _, bits := range []int{64, 63} {
				refused(t, "no kind", call(wrong, 3, great, way, bits), api.ErrKind)
				refused(t, "no kind", call(wrong, 3, "", way, bits), api.ErrKind)
				refused(t, "no format", call(api.KindSin, wrong, great, way, bits), api.ErrKind)
				refused(t, "no format", call(api.KindSin, 9, great, way, bits), api.ErrKind)
				refused(t, "neither kind nor format", call(wrong, wrong, "", way, bits), api.ErrKind)
			}
		}
	}
	for kind := firstKind; kind <= lastKind; kind++ {
		for format := firstFormat; format <= lastFormat; format++ {
			size := sizeOf(t, format)
			for _, n := range []int{0, 1, size - 1, size + 1, 2 * size, 1000} {
				refused(t, "wrong bytes", call(kind, format, strings.Repeat("\x41", n), 1, 64), api.ErrForm)
				refused(t, "wrong bytes, no way, wrong bits", call(kind, format, strings.Repeat("\x00", n), 0, 63), api.ErrForm)
			}
			for _, s := range append(others(t, format), patternOf(t, format, 1), patternOf(t, format, -2)) {
				for _, no := range append(wrongs, 6) {
					refused(t, "no way", call(kind, format, s, no, 64), api.ErrKind)
					refused(t, "no way, wrong bits", call(kind, format, s, no, 601), api.ErrKind)
				}
				for _, bits := range []int{math.MinInt, -64, 0, 63, 601, 1<<32 + 64, math.MaxInt} {
					refused(t, "wrong bits", call(kind, format, s, 1, bits), api.ErrRange)
				}
			}
		}
	}
}

func TestK2BothBoundsOfBits(t *testing.T) {
	for kind := firstKind; kind <= lastKind; kind++ {
		for _, format := range []int{api.FormatSingle, api.FormatHexShort, api.FormatVaxF} {
			for _, bits := range []int{64, 65, 599, 600} {
				s := patternOf(t, format, 3)
				if got := call(kind, format, s, 1, bits); got != asked(t, kind, format, s).by(1) {
					t.Errorf("kind %d of 3 of %d by %d bits: %x", kind, format, bits, got)
				}
			}
		}
	}
}

func TestK2GreatAngles(t *testing.T) {
	for _, c := range []struct {
		s  string
		ok bool
	}{
		{"ffffffffffffffffae44", true},
		{"0000000000000080af44", false},
		{"0100000000000080af44", false},
		{"fffffffffffffffffe7f", false},
		{"0000000000000080ae44", true},
	} {
		for _, last := range []string{c.s[18:], map[byte]string{'4': "c", '7': "f"}[c.s[18]] + c.s[19:]} {
			s := bytesOf(t, c.s[:18]+last)
			for kind := firstKind; kind <= lastKind; kind++ {
				angle := kind == api.KindSin || kind == api.KindCos
				if angle && !c.ok {
					refused(t, "great angle", call(kind, api.FormatExtended, s, 1, 64), api.ErrMany)
					refused(t, "great angle, wrong bits", call(kind, api.FormatExtended, s, 1, 63), api.ErrRange)
				} else if got := call(kind, api.FormatExtended, s, 1, 600); got.e != api.OK {
					t.Errorf("kind %d of %x: error %d", kind, s, got.e)
				}
			}
		}
	}
	// All other formats end below that bound.
	for format := firstFormat; format <= lastFormat; format++ {
		for _, neg := range []bool{false, true} {
			if got := call(api.KindCos, format, greatestOf(t, format, neg), 1, 600); (got.e == api.OK) != (format != api.FormatExtended) {
				t.Errorf("the greatest of %d: error %d", format, got.e)
			}
		}
	}
}

// ErrUnsure is told only where that may be, whatever most is; and where something is told, it is right.
func TestK2UnsureAndK6MoreBits(t *testing.T) {
	counts := make([]int, lastFormat+1)
	inAll(t, func(t *testing.T, format int) {
		for i, s := range append(append(steps(t, format), plain(t, format)...), edges(t, format)...) {
			for kind := firstKind; kind <= lastKind; kind++ {
				want := asked(t, kind, format, s)
				way := 1 + (i+kind)%5
				for _, bits := range []int{64, 65, 100, 200, 600} {
					got := call(kind, format, s, way, bits)
					if got == want.by(way) {
						continue
					}
					counts[format]++
					if got != (told{e: api.ErrUnsure}) || want.value == nil || !unsure(format, want.value, way, bits) {
						t.Errorf("kind %d of %x of %d by %d and %d bits: %x, and must be %x", kind, s, format, way, bits, got, want.by(way))
					}
				}
			}
		}
	})
	t.Cleanup(func() {
		if sum := counts[api.FormatDouble] + counts[api.FormatExtended]; sum == 0 {
			t.Error("none of these was ever unsure: most is not heeded")
		}
	})
}

// nearTo is a line of a table: a kind, a pattern of a format, and what comes by some ways (the others), and by the rest.
type nearTo struct {
	kind, format int
	x            string
	rest, some   string
	others       []int
	flags        int
}

func (l nearTo) check(t *testing.T) {
	t.Helper()
	for way := firstWay; way <= lastWay; way++ {
		want := l.rest
		if slices.Contains(l.others, way) {
			want = l.some
		}
		if got := call(l.kind, l.format, bytesOf(t, l.x), way, 600); got != (told{bytesOf(t, want), l.flags, api.OK}) {
			t.Errorf("kind %d of %s of %d by %d: %x, and must be %s %d", l.kind, l.x, l.format, way, got, want, l.flags)
		}
	}
}

// Functions of numbers so near to 0, or so far, that they are very nearly 1, or the number itself: they lie beside it all
// the same.
func TestK2VeryNearToANumberOfTheGrid(t *testing.T) {
	const single, extended, vax, hexes = api.FormatSingle, api.FormatExtended, api.FormatVaxF, api.FormatHexShort
	const inexact, under = api.FlagInexact, api.FlagInexact + api.FlagUnder
	up, down, inward, outward := []int{api.RoundUp}, []int{api.RoundDown}, []int{api.RoundZero, api.RoundDown}, []int{api.RoundZero, api.RoundUp}
	for _, l := range []nearTo{
		{api.KindExp, single, "00000001", "3f800000", "3f800001", up, inexact},
		{api.KindExp2, single, "00000001", "3f800000", "3f800001", up, inexact},
		{api.KindExp, extended, "01000000000000000000", "0000000000000080ff3f", "0100000000000080ff3f", up, inexact},
		{api.KindExp2, extended, "01000000000000000000", "0000000000000080ff3f", "0100000000000080ff3f", up, inexact},
		{api.KindExp, vax, "80000000", "80400000", "80400100", up, inexact},
		{api.KindExp, hexes, "00100000", "41100000", "41100001", up, inexact},
		{api.KindExp, single, "80000001", "3f800000", "3f7fffff", inward, inexact},
		{api.KindExp2, single, "80000001", "3f800000", "3f7fffff", inward, inexact},
		{api.KindCos, single, "00000001", "3f800000", "3f7fffff", inward, inexact},
		{api.KindCos, hexes, "80100000", "41100000", "40ffffff", inward, inexact},
		{api.KindSin, single, "00000001", "00000001", "00000000", inward, under},
		{api.KindSin, single, "80000001", "80000001", "80000000", outward, under},
		{api.KindArctan, single, "00000002", "00000002", "00000001", inward, under},
		{api.KindExpm1, single, "00000001", "00000001", "00000002", up, under},
		{api.KindExpm1, single, "80000001", "80000001", "80000000", outward, under},
		{api.KindLog1p, single, "00000001", "00000001", "00000000", inward, under},
		{api.KindLog1p, single, "80000001", "80000001", "80000002", down, under},
		// Just below the least number with all digits: what is rounded to it was Under.
		{api.KindSin, single, "00800000", "00800000", "007fffff", inward, under},
		{api.KindSin, vax, "80000000", "80000000", "00000000", inward, under},
		{api.KindSin, hexes, "80100000", "80100000", "00000000", outward, under},
		// Just above it, it was not.
		{api.KindExpm1, single, "00800000", "00800000", "00800001", up, inexact},
		{api.KindExpm1, vax, "80000000", "80000000", "80000100", up, inexact},
		{api.KindLog1p, hexes, "80100000", "80100000", "80100001", down, inexact},
		{api.KindExpm1, single, "ff7fffff", "bf800000", "bf7fffff", outward, inexact},
		{api.KindExpm1, extended, "fffffffffffffffffeff", "0000000000000080ffbf", "fffffffffffffffffebf", outward, inexact},
		{api.KindExpm1, vax, "ffffffff", "80c00000", "7fc0ffff", outward, inexact},
	} {
		l.check(t)
	}
}

// What is rounded up is what is rounded down, or its neighbour; and what comes is in the grid, if it is a number.
func TestK6Neighbours(t *testing.T) {
	inAll(t, func(t *testing.T, format int) {
		for _, s := range append(drawn(t, format, 80), plain(t, format)...) {
			for kind := firstKind; kind <= lastKind; kind++ {
				low, high := call(kind, format, s, api.RoundDown, 600), call(kind, format, s, api.RoundUp, 600)
				inGrid(t, format, low)
				inGrid(t, format, high)
				if low.s == high.s || low.flags&(api.FlagOver|api.FlagUnder) != 0 {
					continue
				}
				if next, e := codec.Next(format, low.s, true); next != high.s || e != api.OK || low.e != api.OK || high.e != api.OK {
					t.Errorf("kind %d of %x of %d: %x and %x", kind, s, format, low, high)
				}
				for way := firstWay; way <= lastWay; way++ {
					if got := call(kind, format, s, way, 600); got != low && got != high {
						t.Errorf("kind %d of %x of %d by %d: %x is neither %x nor %x", kind, s, format, way, got, low, high)
					}
				}
			}
		}
	})
}

// inGrid asks that what was answered is a pattern as Encode makes it, of a number of the grid, or no number.
func inGrid(t *testing.T, format int, got told) {
	t.Helper()
	if got.e == api.ErrMany {
		return
	}
	v, x, e := worth.Read(format, got.s)
	ok, f := grid.Holds(x, gridOf(t, format))
	if e != api.OK || f != api.OK || !ok || encoded(t, format, v) != got.s {
		t.Errorf("%x of %d is not in the grid", got, format)
	}
}
