package elem

import (
	"math"
	"slices"
	"strings"
	"testing"

	"slipstick/api"
)

// row of a table: what a kind makes of a pattern of a format, by whatever way.
type row struct {
	kind, format int
	x, want      string
	flags        int
}

func (r row) check(t *testing.T) {
	t.Helper()
	for way := firstWay; way <= lastWay; way++ {
		for _, bits := range []int{64, 600} {
			if got := call(r.kind, r.format, bytesOf(t, r.x), way, bits); got != (told{bytesOf(t, r.want), r.flags, api.OK}) {
				t.Errorf("kind %d of %s of %d by %d and %d bits: %x, and must be %s %d", r.kind, r.x, r.format, way, bits, got, r.want, r.flags)
			}
		}
	}
}

const (
	single, double, extended = api.FormatSingle, api.FormatDouble, api.FormatExtended
	hexShort, hexLong        = api.FormatHexShort, api.FormatHexLong
	vaxF, vaxD, vaxG         = api.FormatVaxF, api.FormatVaxD, api.FormatVaxG
)

func TestK3Zeros(t *testing.T) {
	const flag = api.FlagZero
	for _, kind := range []int{api.KindExp, api.KindCos, api.KindExp2} {
		for _, r := range []row{
			{kind, single, "00000000", "3f800000", 0}, {kind, single, "80000000", "3f800000", 0},
			{kind, extended, "00000000000000000080", "0000000000000080ff3f", 0},
			{kind, hexShort, "c1000000", "41100000", 0}, {kind, hexLong, "0000000000000000", "4110000000000000", 0},
			{kind, vaxF, "7f00ffff", "80400000", 0}, {kind, vaxG, "0f00000000000012", "1040000000000000", 0},
		} {
			r.check(t)
		}
	}
	for _, kind := range []int{api.KindSin, api.KindArctan, api.KindExpm1, api.KindLog1p} {
		for _, r := range []row{
			{kind, single, "00000000", "00000000", 0}, {kind, single, "80000000", "80000000", 0},
			{kind, double, "8000000000000000", "8000000000000000", 0}, {kind, extended, "00000000000000000080", "00000000000000000080", 0},
			{kind, hexShort, "80000000", "00000000", 0}, {kind, hexShort, "c1000000", "00000000", 0}, {kind, hexLong, "4500000000000000", "0000000000000000", 0},
			{kind, vaxF, "7f00ffff", "00000000", 0}, {kind, vaxD, "0100000000000000", "0000000000000000", 0},
		} {
			r.check(t)
		}
	}
	for _, kind := range []int{api.KindLog, api.KindLog2} {
		for _, r := range []row{
			{kind, single, "00000000", "ff800000", flag}, {kind, single, "80000000", "ff800000", flag},
			{kind, double, "8000000000000000", "fff0000000000000", flag}, {kind, extended, "00000000000000000000", "0000000000000080ffff", flag},
			{kind, hexShort, "00000000", "ffffffff", flag}, {kind, hexShort, "c1000000", "ffffffff", flag}, {kind, hexLong, "0000000000000000", "ffffffffffffffff", flag},
			{kind, vaxF, "00000000", "00800000", flag}, {kind, vaxD, "0100000000000000", "0080000000000000", flag}, {kind, vaxG, "0000000000000000", "0080000000000000", flag},
		} {
			r.check(t)
		}
	}
}

func TestK3InfiniteNoneAndReserved(t *testing.T) {
	const invalid = api.FlagInvalid
	for _, r := range []row{
		{api.KindExp, single, "7f800000", "7f800000", 0}, {api.KindExp, single, "ff800000", "00000000", 0},
		{api.KindExp2, double, "7ff0000000000000", "7ff0000000000000", 0}, {api.KindExp2, double, "fff0000000000000", "0000000000000000", 0},
		{api.KindExpm1, single, "7f800000", "7f800000", 0}, {api.KindExpm1, single, "ff800000", "bf800000", 0},
		{api.KindLog, single, "7f800000", "7f800000", 0}, {api.KindLog, single, "ff800000", "7fc00000", invalid},
		{api.KindLog2, extended, "0000000000000080ff7f", "0000000000000080ff7f", 0}, {api.KindLog2, extended, "0000000000000080ffff", "00000000000000c0ff7f", invalid},
		{api.KindLog1p, single, "7f800000", "7f800000", 0}, {api.KindLog1p, single, "ff800000", "7fc00000", invalid},
		{api.KindSin, single, "7f800000", "7fc00000", invalid}, {api.KindSin, single, "ff800000", "7fc00000", invalid},
		{api.KindCos, double, "7ff0000000000000", "7ff8000000000000", invalid}, {api.KindCos, single, "ff800000", "7fc00000", invalid},
	} {
		r.check(t)
	}
	for kind := firstKind; kind <= lastKind; kind++ {
		for _, r := range []row{
			{kind, single, "7fc00000", "7fc00000", 0}, {kind, single, "ff800001", "7fc00000", 0}, {kind, double, "fff8000000000012", "7ff8000000000000", 0},
			{kind, extended, "00000000000000400040", "00000000000000c0ff7f", 0}, {kind, extended, "0000000000000000ffff", "00000000000000c0ff7f", 0},
			{kind, vaxF, "00800000", "00800000", invalid}, {kind, vaxF, "7f80ffff", "00800000", invalid},
			{kind, vaxD, "0180000000000001", "0080000000000000", invalid}, {kind, vaxG, "0f80000000000000", "0080000000000000", invalid},
		} {
			r.check(t)
		}
	}
}

// A quarter of a circle is between these, and nearer to the first one.
func TestK3ArctanOfInfinite(t *testing.T) {
	for _, c := range []struct {
		format            int
		plus, minus       string
		below, above      string
		under, over       string // the same with a sign
		nearest, opposite string
	}{
		{single, "7f800000", "ff800000", "3fc90fda", "3fc90fdb", "bfc90fda", "bfc90fdb", "3fc90fdb", "bfc90fdb"},
		{double, "7ff0000000000000", "fff0000000000000", "3ff921fb54442d18", "3ff921fb54442d19", "bff921fb54442d18", "bff921fb54442d19", "3ff921fb54442d18", "bff921fb54442d18"},
		{extended, "0000000000000080ff7f", "0000000000000080ffff", "34c26821a2da0fc9ff3f", "35c26821a2da0fc9ff3f", "34c26821a2da0fc9ffbf", "35c26821a2da0fc9ffbf", "35c26821a2da0fc9ff3f", "35c26821a2da0fc9ffbf"},
	} {
		for way, want := range map[int][2]string{
			api.RoundEven: {c.nearest, c.opposite}, api.RoundAway: {c.nearest, c.opposite}, api.RoundZero: {c.below, c.under},
			api.RoundUp: {c.above, c.under}, api.RoundDown: {c.below, c.over},
		} {
			for i, s := range []string{c.plus, c.minus} {
				for _, bits := range []int{64, 300, 600} {
					if got := call(api.KindArctan, c.format, bytesOf(t, s), way, bits); got != (told{bytesOf(t, want[i]), api.FlagInexact, api.OK}) {
						t.Errorf("format %d, %s by %d: %x, and must be %s", c.format, s, way, got, want[i])
					}
				}
			}
		}
	}
}

func TestK3NumbersWithoutAValue(t *testing.T) {
	const invalid, flag = api.FlagInvalid, api.FlagZero
	for _, r := range []row{
		{api.KindLog, single, "bf800000", "7fc00000", invalid}, {api.KindLog, single, "80000001", "7fc00000", invalid}, {api.KindLog, single, "ff7fffff", "7fc00000", invalid},
		{api.KindLog2, single, "c0000000", "7fc00000", invalid}, {api.KindLog2, extended, "01000000000000000080", "00000000000000c0ff7f", invalid},
		{api.KindLog, hexShort, "c1100000", "00000000", invalid}, {api.KindLog2, hexLong, "8000000000000001", "0000000000000000", invalid},
		{api.KindLog, vaxF, "80c00000", "00800000", invalid}, {api.KindLog2, vaxG, "1080000000000000", "0080000000000000", invalid},
		{api.KindLog1p, single, "bf800001", "7fc00000", invalid}, {api.KindLog1p, single, "ff7fffff", "7fc00000", invalid},
		{api.KindLog1p, hexShort, "c1100001", "00000000", invalid}, {api.KindLog1p, vaxF, "80c00100", "00800000", invalid},
		{api.KindLog1p, vaxD, "ffffffffffffffff", "0080000000000000", invalid},
		{api.KindLog1p, single, "bf800000", "ff800000", flag}, {api.KindLog1p, double, "bff0000000000000", "fff0000000000000", flag},
		{api.KindLog1p, extended, "0000000000000080ffbf", "0000000000000080ffff", flag},
		{api.KindLog1p, hexShort, "c1100000", "ffffffff", flag}, {api.KindLog1p, hexShort, "c2010000", "ffffffff", flag}, {api.KindLog1p, hexLong, "c110000000000000", "ffffffffffffffff", flag},
		{api.KindLog1p, vaxF, "80c00000", "00800000", flag}, {api.KindLog1p, vaxG, "10c0000000000000", "0080000000000000", flag},
	} {
		r.check(t)
	}
	// Just above -1 there is a value.
	if got := call(api.KindLog1p, single, bytesOf(t, "bf7fffff"), api.RoundEven, 64); got != (told{bytesOf(t, "c1851592"), api.FlagInexact, api.OK}) {
		t.Errorf("Log1p just above -1: %x", got)
	}
}

func TestK4NumbersOfBits(t *testing.T) {
	for _, r := range []row{
		{api.KindExp2, single, "3f800000", "40000000", 0}, {api.KindExp2, single, "bf800000", "3f000000", 0}, {api.KindExp2, single, "42fe0000", "7f000000", 0},
		{api.KindExp2, single, "c2fc0000", "00800000", 0}, {api.KindExp2, single, "c2fe0000", "00400000", 0}, {api.KindExp2, single, "c3150000", "00000001", 0},
		{api.KindExp2, extended, "000000000000fcff0c40", "0000000000000080fe7f", 0}, {api.KindExp2, extended, "0000000000007a800dc0", "01000000000000000000", 0},
		{api.KindExp2, hexShort, "41300000", "41800000", 0}, {api.KindExp2, hexShort, "42010000", "41200000", 0}, {api.KindExp2, hexShort, "c3104000", "00100000", 0},
		{api.KindExp2, hexShort, "42fb0000", "7f800000", 0}, {api.KindExp2, vaxF, "fc430000", "807f0000", 0}, {api.KindExp2, vaxF, "00c40000", "80000000", 0},
		{api.KindLog2, single, "3f800000", "00000000", 0}, {api.KindLog2, single, "41000000", "40400000", 0}, {api.KindLog2, single, "00000001", "c3150000", 0},
		{api.KindLog2, single, "3e000000", "c0400000", 0}, {api.KindLog2, extended, "01000000000000000000", "0000000000007a800dc0", 0},
		{api.KindLog2, hexShort, "42010000", "00000000", 0}, {api.KindLog2, hexLong, "0000000000000001", "c313800000000000", 0}, {api.KindLog2, vaxF, "80400000", "00000000", 0},
		{api.KindLog2, vaxG, "1000000000000000", "b0c0000000000000", 0},
		{api.KindLog, single, "3f800000", "00000000", 0}, {api.KindLog, extended, "0000000000000080ff3f", "00000000000000000000", 0},
		{api.KindLog, hexShort, "42010000", "00000000", 0}, {api.KindLog, vaxD, "8040000000000000", "0000000000000000", 0},
		// Beyond the greatest and the least of formats that are not gradual.
		{api.KindExp2, vaxF, "fe430000", "00800000", api.FlagOver + api.FlagInexact}, {api.KindExp2, vaxF, "01c40000", "00000000", api.FlagUnder + api.FlagInexact},
		{api.KindExp2, hexShort, "42fc0000", "7fffffff", api.FlagOver + api.FlagInexact}, {api.KindExp2, hexShort, "c3105000", "00000000", api.FlagUnder + api.FlagInexact},
		{api.KindExp2, hexLong, "7fffffffffffffff", "7fffffffffffffff", api.FlagOver + api.FlagInexact}, {api.KindExp2, hexLong, "ffffffffffffffff", "0000000000000000", api.FlagUnder + api.FlagInexact},
	} {
		r.check(t)
	}
}

// Half of the least number, less than that, and what is beyond the greatest one: here the ways differ.
func TestK4BeyondBothEnds(t *testing.T) {
	const under, over = api.FlagUnder + api.FlagInexact, api.FlagOver + api.FlagInexact
	for _, c := range []struct {
		x     string
		want  [lastWay + 1]string
		flags int
	}{
		{"c3160000", [...]string{api.RoundEven: "00000000", api.RoundAway: "00000001", api.RoundZero: "00000000", api.RoundUp: "00000001", api.RoundDown: "00000000"}, under},
		{"c3170000", [...]string{api.RoundEven: "00000000", api.RoundAway: "00000000", api.RoundZero: "00000000", api.RoundUp: "00000001", api.RoundDown: "00000000"}, under},
		{"ff7fffff", [...]string{api.RoundEven: "00000000", api.RoundAway: "00000000", api.RoundZero: "00000000", api.RoundUp: "00000001", api.RoundDown: "00000000"}, under},
		{"43000000", [...]string{api.RoundEven: "7f800000", api.RoundAway: "7f800000", api.RoundZero: "7f7fffff", api.RoundUp: "7f800000", api.RoundDown: "7f7fffff"}, over},
		{"7f7fffff", [...]string{api.RoundEven: "7f800000", api.RoundAway: "7f800000", api.RoundZero: "7f7fffff", api.RoundUp: "7f800000", api.RoundDown: "7f7fffff"}, over},
		// Beside whole numbers: a little more than half of the least one, and a little less.
		{"c315ffff", [...]string{api.RoundEven: "00000001", api.RoundAway: "00000001", api.RoundZero: "00000000", api.RoundUp: "00000001", api.RoundDown: "00000000"}, under},
		{"c3160001", [...]string{api.RoundEven: "00000000", api.RoundAway: "00000000", api.RoundZero: "00000000", api.RoundUp: "00000001", api.RoundDown: "00000000"}, under},
		// A little less than 2 to the power of 128 is not too great.
		{"42ffffff", [...]string{api.RoundEven: "7f7fffa7", api.RoundAway: "7f7fffa7", api.RoundZero: "7f7fffa7", api.RoundUp: "7f7fffa8", api.RoundDown: "7f7fffa7"}, api.FlagInexact},
	} {
		for way := firstWay; way <= lastWay; way++ {
			if got := call(api.KindExp2, single, bytesOf(t, c.x), way, 64); got != (told{bytesOf(t, c.want[way]), c.flags, api.OK}) {
				t.Errorf("Exp2 of %s by %d: %x, and must be %s %d", c.x, way, got, c.want[way], c.flags)
			}
		}
	}
}

func TestK5Table(t *testing.T) {
	inAll(t, func(t *testing.T, format int) {
		list := append(others(t, format), plain(t, format)...)[:40]
		for kind := firstKind; kind <= lastKind; kind++ {
			for _, n := range []int{0, 1, 2, 40} {
				way := 1 + (kind+n)%5
				patterns, flags, e := Table(kind, format, list[:n], way, 150)
				if e != api.OK || len(patterns) != n || len(flags) != n {
					t.Fatalf("kind %d of %d patterns of %d: %x %v, error %d", kind, n, format, patterns, flags, e)
				}
				for i := range n {
					if want := call(kind, format, list[i], way, 150); want != (told{patterns[i], flags[i], api.OK}) {
						t.Errorf("kind %d of %x of %d: %x %d, and must be %x", kind, list[i], format, patterns[i], flags[i], want)
					}
				}
			}
		}
	})
}

func TestK5Errors(t *testing.T) {
	one, great := patternOf(t, extended, 1), bytesOf(t, "0000000000000080af44")
	table := func(n int, last ...string) []string { return append(slices.Repeat([]string{one}, n), last...) }
	for _, c := range []struct {
		what            string
		kind, format    int
		list            []string
		way, most, want int
	}{
		{"no kind", 0, extended, table(1), 1, 64, int(api.ErrKind)},
		{"no kind", 10, extended, table(40), 1, 64, int(api.ErrKind)},
		{"no format", 1, 9, table(1), 1, 64, int(api.ErrKind)},
		{"no way", 1, extended, table(1), 6, 64, int(api.ErrKind)},
		{"wrong bits", 1, extended, table(1), 1, 63, int(api.ErrRange)},
		{"wrong bits", 1, extended, table(1), 1, 601, int(api.ErrRange)},
		{"wrong bytes, first", 1, extended, append([]string{"1"}, table(5)...), 1, 64, int(api.ErrForm)},
		{"wrong bytes, last", 1, extended, table(39, "1"), 1, 64, int(api.ErrForm)},
		{"wrong bytes ahead of a great angle", api.KindSin, extended, table(3, "1", great), 1, 600, int(api.ErrForm)},
		{"a great angle ahead of wrong bytes", api.KindSin, extended, table(3, great, "1"), 1, 600, int(api.ErrMany)},
		{"a great angle last", api.KindCos, extended, table(39, great), 1, 600, int(api.ErrMany)},
		{"too many", 1, extended, table(41), 1, 64, int(api.ErrMany)},
		{"too many, and all else is wrong", 0, 0, table(40, "1"), 0, 0, int(api.ErrMany)},
		{"very many", 1, extended, table(5000), 1, 64, int(api.ErrMany)},
	} {
		patterns, flags, e := Table(c.kind, c.format, c.list, c.way, c.most)
		if int(e) != c.want || len(patterns) != 0 || len(flags) != 0 {
			t.Errorf("%s: %x %v, error %d, and must be error %d alone", c.what, patterns, flags, e, c.want)
		}
	}
	// Of no patterns there is nothing to be wrong with.
	for _, empty := range [][]string{nil, {}} {
		if patterns, flags, e := Table(0, 0, empty, 0, 0); e != api.OK || len(patterns) != 0 || len(flags) != 0 {
			t.Errorf("no patterns: %x %v, error %d", patterns, flags, e)
		}
	}
}

func TestP1WhateverIsHandedIn(t *testing.T) {
	texts := []string{"", "\x00", "1234", "\xff\xff\xff\xff", "12345678", strings.Repeat("\xff", 8), "1234567890", strings.Repeat("\xff", 10), strings.Repeat("x", 100)}
	numbers := []int{math.MinInt, -1, 0, 1, 2, 3, 4, 5, 6, 7, 8, 9, 10, 64, 600, math.MaxInt}
	for _, kind := range numbers {
		for _, format := range numbers {
			for _, way := range []int{math.MinInt, 0, 1, 4, 5, 6, math.MaxInt} {
				for _, bits := range []int{math.MinInt, 63, 64, 601, math.MaxInt} {
					for _, s := range texts {
						got := call(kind, format, s, way, bits)
						if (got.s == "") != (got.e != api.OK) || got.e != api.OK && got.flags != 0 || got.flags < 0 || got.flags > 31 {
							t.Fatalf("kind %d of %x of %d by %d and %d bits: %x", kind, s, format, way, bits, got)
						}
					}
				}
			}
		}
	}
}

func TestP2AndP3Memory(t *testing.T) {
	for format := firstFormat; format <= lastFormat; format++ {
		for kind := firstKind; kind <= lastKind; kind++ {
			room := []string{patternOf(t, format, 1), patternOf(t, format, 0.5), "spare", "room"}
			kept := slices.Clone(room)
			patterns, flags, e := Table(kind, format, room[:2], 1, 200)
			if !slices.Equal(room, kept) {
				t.Fatal("Table changed what it was handed")
			}
			first, told := slices.Clone(patterns), slices.Clone(flags)
			for i := range room {
				room[i] = "spoilt"
			}
			if !slices.Equal(patterns, first) {
				t.Fatal("the answer changed with what was handed in")
			}
			for i := range patterns {
				patterns[i], flags[i] = "spoilt", -1
			}
			again, others, f := Table(kind, format, kept[:2], 1, 200)
			if e != f || !slices.Equal(first, again) || !slices.Equal(told, others) {
				t.Fatalf("kind %d of format %d: another answer the next time", kind, format)
			}
		}
	}
}
