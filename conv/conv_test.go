package conv

import (
	"math"
	"math/big"
	"testing"

	"slipstick/api"
	"slipstick/codec"
)

// isConverted holds Convert against what G1 says.
func isConverted(t *testing.T, from int, s string, to, way int) {
	t.Helper()
	got, flags, e := Convert(from, s, to, way)
	want, told := converted(t, from, s, to, way)
	if got != want || flags != told || e != api.OK {
		t.Errorf("%x from %d to %d, way %d: %x %d, error %d, and must be %x %d", s, from, to, way, got, flags, e, want, told)
	}
}

// isWhole holds ToInt against what G2 says.
func isWhole(t *testing.T, format int, s string, way int) {
	t.Helper()
	got, flags, e := ToInt(format, s, way)
	want, told := wholeOf(t, format, s, way)
	if got != want || flags != told || e != api.OK {
		t.Errorf("%x of %d, way %d: %d %d, error %d, and must be %d %d", s, format, way, got, flags, e, want, told)
	}
}

func TestG1Lines(t *testing.T) {
	const single, double, extended, short, long, f, d, g = 1, 2, 3, 4, 5, 6, 7, 8
	for _, l := range []struct {
		what    string
		from    int
		s       string
		to, way int
		want    string
		flags   int
		andBack bool
	}{
		{"1", single, "3f800000", long, even, "4110000000000000", 0, true},
		{"-3", short, "c1300000", f, even, "40c10000", 0, true},
		{"1 of 16, unnormal", short, "42010000", single, even, "3f800000", 0, false},
		{"1 of 16, unnormal, at home", short, "43001000", short, even, "41100000", 0, false},
		{"the least of 16, and not whole", short, "00000001", double, even, "2e70000000000000", 0, false},
		{"the same, to the base of 16", short, "00000001", short, even, "00000000", 3, false},
		{"with J, and E 0", extended, "00000000000000800000", extended, even, "00000000000000800100", 0, false},
		{"without J", extended, "000000000000004000ff", single, even, "7fc00000", 0, false},
		{"0.1", double, "3fb999999999999a", single, even, "3dcccccd", 1, false},
		{"0.1, to 0", double, "3fb999999999999a", single, api.RoundZero, "3dcccccc", 1, false},
		{"halfway, to what is even", double, "3ff0000010000000", single, even, "3f800000", 1, false},
		{"halfway, away", double, "3ff0000010000000", single, api.RoundAway, "3f800001", 1, false},
		{"below 0, down", double, "bff0000010000000", single, down, "bf800001", 1, false},
		{"below 0, up", double, "bff0000010000000", single, api.RoundUp, "bf800000", 1, false},
		{"too great, A", double, "7fe0000000000000", single, even, "7f800000", 5, false},
		{"too great, A, to 0", double, "ffe0000000000000", single, api.RoundZero, "ff7fffff", 5, false},
		{"too great, B", double, "ffe0000000000000", short, even, "ffffffff", 5, false},
		{"too great, C", double, "7fe0000000000000", d, api.RoundZero, "0080000000000000", 5, false},
		{"too small, A", double, "8000000000000001", single, even, "80000000", 3, false},
		{"too small, A, down", double, "8000000000000001", single, down, "80000001", 3, false},
		{"too small, B", double, "8000000000000001", short, down, "00000000", 3, false},
		{"too small, C", double, "8000000000000001", g, down, "0000000000000000", 3, false},
		{"gradual, exactly", double, "36a0000000000000", single, even, "00000001", 0, true},
		{"-0", single, "80000000", extended, even, "00000000000000000080", 0, true},
		{"-0 to B", single, "80000000", long, even, "0000000000000000", 0, false},
		{"-0 to C", single, "80000000", d, down, "0000000000000000", 0, false},
		{"-0 of 16", short, "c5000000", double, even, "8000000000000000", 0, false},
		{"-0 of 16 to 16", short, "80000000", long, even, "0000000000000000", 0, false},
		{"0 of 16 with an E", short, "45000000", short, even, "00000000", 0, false},
		{"0 of words", f, "7f001234", single, down, "00000000", 0, false},
		{"infinite", single, "ff800000", double, even, "fff0000000000000", 0, true},
		{"infinite to B", single, "ff800000", short, even, "00000000", 16, false},
		{"infinite to C", single, "7f800000", f, even, "00800000", 16, false},
		{"none, with a sign", single, "ff800001", double, even, "7ff8000000000000", 0, false},
		{"none, at home", single, "ff800001", single, even, "7fc00000", 0, true},
		{"none to B", double, "7ff8000000000000", long, even, "0000000000000000", 16, false},
		{"none to C", double, "7ff8000000000000", g, even, "0080000000000000", 16, false},
		{"reserved to A", f, "00803412", extended, even, "00000000000000c0ff7f", 16, false},
		{"reserved to B", d, "0080000000000000", short, even, "00000000", 16, false},
		{"reserved to C", g, "0f80000000000000", f, even, "00800000", 16, false},
	} {
		got, flags, e := Convert(l.from, bytesOf(t, l.s), l.to, l.way)
		if got != bytesOf(t, l.want) || flags != l.flags || e != api.OK {
			t.Errorf("%s: %x %d, error %d, and must be %s %d", l.what, got, flags, e, l.want, l.flags)
		}
		if !l.andBack {
			continue
		}
		if _, flags, e := Convert(l.to, got, l.from, l.way); flags != 0 || e != api.OK {
			t.Errorf("%s, back: flags %d, error %d", l.what, flags, e)
		}
	}
}

// edges of a format: each class that it has, the ends of its grid, and 1, with both signs.
func edges(t *testing.T, format int) []string {
	t.Helper()
	g, e := codec.Grid(format)
	if e != api.OK {
		t.Fatal(e)
	}
	radix, one := big.NewInt(int64(g.Radix)), big.NewInt(1)
	end := new(big.Int).Exp(radix, big.NewInt(int64(g.Digits)), nil)
	lead := new(big.Int).Div(end, radix)
	var list []string
	for _, neg := range []bool{false, true} {
		for _, v := range []api.Value{
			{Class: api.ClassZero, Neg: neg}, {Class: api.ClassInfinite, Neg: neg}, {Class: api.ClassNone}, {Class: api.ClassReserved},
			{Class: api.ClassNumber, Neg: neg, Digits: api.Nat{1}},
			{Class: api.ClassNumber, Neg: neg, Digits: api.Nat{1}, Power: g.Least},
			{Class: api.ClassNumber, Neg: neg, Digits: natOf(lead), Power: g.Least},
			{Class: api.ClassNumber, Neg: neg, Digits: natOf(new(big.Int).Add(lead, one)), Power: g.Least},
			{Class: api.ClassNumber, Neg: neg, Digits: natOf(new(big.Int).Sub(end, one)), Power: g.Least},
			{Class: api.ClassNumber, Neg: neg, Digits: natOf(new(big.Int).Add(lead, one)), Power: g.Greatest},
			{Class: api.ClassNumber, Neg: neg, Digits: natOf(new(big.Int).Sub(end, one)), Power: g.Greatest},
		} {
			if s, e := codec.Encode(format, v); e == api.OK {
				list = append(list, s)
			}
		}
	}
	return list
}

func TestG1EdgesFromEachToEach(t *testing.T) {
	for from := first; from <= last; from++ {
		for _, s := range edges(t, from) {
			for to := first; to <= last; to++ {
				for way := even; way <= down; way++ {
					isConverted(t, from, s, to, way)
				}
			}
		}
	}
}

func TestG1AnyPatterns(t *testing.T) {
	d := draw(71)
	for range 20000 {
		from, to, way := first+d.below(8), first+d.below(8), even+d.below(5)
		isConverted(t, from, d.pattern(t, from), to, way)
	}
}

// The library's own points round to the nearest, halves to what is even.
func TestG1AgainstLibrary(t *testing.T) {
	d := draw(72)
	for range 20000 {
		s := d.pattern(t, api.FormatDouble)
		var bits uint64
		for i := range len(s) {
			bits = bits<<8 | uint64(s[i])
		}
		x := math.Float64frombits(bits)
		if math.IsNaN(x) {
			continue
		}
		want := math.Float32bits(float32(x))
		got, _, e := Convert(api.FormatDouble, s, api.FormatSingle, even)
		if e != api.OK || got != string([]byte{byte(want >> 24), byte(want >> 16), byte(want >> 8), byte(want)}) {
			t.Fatalf("%x (%g): %x, error %d, and must be %x", s, x, got, e, want)
		}
	}
}

func TestG1Errors(t *testing.T) {
	one, short := "\x3f\x80\x00\x00", "\x3f\x80\x00"
	type ask struct {
		from int
		s    string
		to   int
		way  int
		want api.Errno
	}
	list := []ask{
		{1, "", 2, 1, api.ErrForm},
		{1, short, 2, 0, api.ErrForm},
		{1, one + "\x00", 2, 1, api.ErrForm},
		{2, one, 1, 1, api.ErrForm},
		{3, one + one, 1, 1, api.ErrForm},
	}
	for _, no := range wrongFormats {
		list = append(list, ask{no, one, 1, 1, api.ErrKind}, ask{1, one, no, 1, api.ErrKind}, ask{no, one, no, 1, api.ErrKind},
			ask{no, short, 1, 0, api.ErrKind}, ask{1, short, no, 0, api.ErrKind})
	}
	for _, no := range wrongWays {
		for _, s := range []string{one, "\x00\x00\x00\x00", "\x7f\x80\x00\x00", "\x7f\xc0\x00\x00"} {
			for to := first; to <= last; to++ {
				list = append(list, ask{1, s, to, no, api.ErrKind})
			}
		}
		list = append(list, ask{6, "\x00\x80\x00\x00", 1, no, api.ErrKind}, ask{1, short, 1, no, api.ErrForm})
	}
	for _, a := range list {
		if s, flags, e := Convert(a.from, a.s, a.to, a.way); s != "" || flags != 0 || e != a.want {
			t.Errorf("%+v: %x %d, error %d", a, s, flags, e)
		}
	}
}

// wholes are whole numbers at the ends of what may be asked, and of what formats hold.
func wholes() []int {
	list := []int{0, 1, -1, 2, 7, 10, math.MaxInt64, math.MaxInt64 - 1, math.MinInt64, math.MinInt64 + 1}
	for _, bits := range []int{20, 21, 24, 31, 32, 53, 54, 55, 56, 57, 61, 62} {
		for more := -2; more <= 2; more++ {
			list = append(list, 1<<bits+more, -1<<bits+more)
		}
	}
	return list
}

func TestG2FromInt(t *testing.T) {
	list := wholes()
	d := draw(73)
	for range 500 {
		list = append(list, (d.below(1<<31)<<33|d.below(1<<31)<<2|d.below(4))>>d.below(63))
	}
	for _, n := range list {
		for format := first; format <= last; format++ {
			for way := even; way <= down; way++ {
				got, flags, e := FromInt(n, format, way)
				want, told := fitted(t, new(big.Rat).SetInt64(int64(n)), format, way)
				if got != want || flags != told || e != api.OK {
					t.Fatalf("%d, format %d, way %d: %x %d, error %d, and must be %x %d", n, format, way, got, flags, e, want, told)
				}
			}
		}
	}
	for _, l := range []struct {
		n, format, way int
		want           string
		flags          int
	}{
		{3, api.FormatHexShort, even, "41300000", 0},
		{1<<24 + 1, api.FormatSingle, even, "4b800000", 1},
		{1<<24 + 1, api.FormatSingle, api.RoundUp, "4b800001", 1},
		{math.MinInt64, api.FormatExtended, even, "00000000000000803ec0", 0},
		{math.MaxInt64, api.FormatExtended, even, "feffffffffffffff3d40", 0},
		{math.MaxInt64, api.FormatDouble, api.RoundZero, "43dfffffffffffff", 1},
		{math.MaxInt64, api.FormatDouble, even, "43e0000000000000", 1},
		{0, api.FormatSingle, down, "00000000", 0},
	} {
		if got, flags, e := FromInt(l.n, l.format, l.way); got != bytesOf(t, l.want) || flags != l.flags || e != api.OK {
			t.Errorf("%+v: %x %d, error %d", l, got, flags, e)
		}
	}
}

func TestG2ToIntLines(t *testing.T) {
	for _, l := range []struct {
		what   string
		format int
		s      string
		way    int
		want   int
		flags  int
	}{
		{"3", api.FormatHexShort, "41300000", even, 3, 0},
		{"0.5, to what is even", api.FormatSingle, "3f000000", even, 0, 1},
		{"1.5, to what is even", api.FormatSingle, "3fc00000", even, 2, 1},
		{"2.5, to what is even", api.FormatSingle, "40200000", even, 2, 1},
		{"2.5, away", api.FormatSingle, "40200000", api.RoundAway, 3, 1},
		{"-2.5, away", api.FormatSingle, "c0200000", api.RoundAway, -3, 1},
		{"-2.5, to 0", api.FormatSingle, "c0200000", api.RoundZero, -2, 1},
		{"-2.5, up", api.FormatSingle, "c0200000", api.RoundUp, -2, 1},
		{"-2.5, down", api.FormatSingle, "c0200000", down, -3, 1},
		{"the least, up", api.FormatExtended, "01000000000000000000", api.RoundUp, 1, 1},
		{"the least below 0, down", api.FormatExtended, "01000000000000000080", down, -1, 1},
		{"the least below 0, up", api.FormatExtended, "01000000000000000080", api.RoundUp, 0, 1},
		{"-0", api.FormatSingle, "80000000", down, 0, 0},
		{"1 of 16, unnormal", api.FormatHexShort, "42010000", even, 1, 0},
		{"0.5 of 16, unnormal", api.FormatHexShort, "41080000", even, 0, 1},
		{"the greatest whole number", api.FormatExtended, "feffffffffffffff3d40", even, math.MaxInt64, 0},
		{"a half more, to 0", api.FormatExtended, "ffffffffffffffff3d40", api.RoundZero, math.MaxInt64, 1},
		{"a half more, down", api.FormatExtended, "ffffffffffffffff3d40", down, math.MaxInt64, 1},
		{"a half more, even", api.FormatExtended, "ffffffffffffffff3d40", even, 0, 16},
		{"a half more, away", api.FormatExtended, "ffffffffffffffff3d40", api.RoundAway, 0, 16},
		{"a half more, up", api.FormatExtended, "ffffffffffffffff3d40", api.RoundUp, 0, 16},
		{"one more", api.FormatExtended, "00000000000000803e40", api.RoundZero, 0, 16},
		{"the least whole number", api.FormatExtended, "00000000000000803ec0", even, math.MinInt64, 0},
		{"one less", api.FormatExtended, "01000000000000803ec0", api.RoundUp, 0, 16},
		{"all of 64 bits", api.FormatExtended, "ffffffffffffffff3e40", even, 0, 16},
		{"one bit more", api.FormatExtended, "00000000000000803f40", even, 0, 16},
		{"one bit more, below 0", api.FormatExtended, "00000000000000803fc0", even, 0, 16},
		{"the greatest of all", api.FormatExtended, "fffffffffffffffffe7f", even, 0, 16},
		{"just below, of 53 bits", api.FormatDouble, "43dfffffffffffff", even, 1<<63 - 1<<10, 0},
		{"beyond, of 53 bits", api.FormatDouble, "43e0000000000000", even, 0, 16},
		{"the least, of 53 bits", api.FormatDouble, "c3e0000000000000", even, math.MinInt64, 0},
		{"below, of 53 bits", api.FormatDouble, "c3e0000000000001", even, 0, 16},
		{"infinite", api.FormatSingle, "7f800000", even, 0, 16},
		{"none", api.FormatSingle, "7fc00000", even, 0, 16},
		{"reserved", api.FormatVaxF, "00800000", even, 0, 16},
		{"0 of words", api.FormatVaxF, "7f000000", down, 0, 0},
	} {
		if got, flags, e := ToInt(l.format, bytesOf(t, l.s), l.way); got != l.want || flags != l.flags || e != api.OK {
			t.Errorf("%s: %d %d, error %d, and must be %d %d", l.what, got, flags, e, l.want, l.flags)
		}
	}
}

func TestG2ToIntOfAll(t *testing.T) {
	d := draw(74)
	for format := first; format <= last; format++ {
		list := edges(t, format)
		for _, n := range wholes() {
			for way := even; way <= down; way++ {
				s, _, e := FromInt(n, format, way)
				if e != api.OK {
					t.Fatal(e)
				}
				list = append(list, s)
			}
		}
		for range 1000 {
			list = append(list, d.pattern(t, format))
		}
		// Halves and quarters, of a few.
		for quarters := -30; quarters <= 30; quarters++ {
			s, _ := fitted(t, big.NewRat(int64(quarters), 4), format, even)
			list = append(list, s)
		}
		for _, s := range list {
			for way := even; way <= down; way++ {
				isWhole(t, format, s, way)
			}
		}
	}
}

func TestG2Errors(t *testing.T) {
	for _, no := range wrongFormats {
		if s, flags, e := FromInt(1, no, 0); s != "" || flags != 0 || e != api.ErrKind {
			t.Errorf("FromInt, format %d: %x %d %d", no, s, flags, e)
		}
		if n, flags, e := ToInt(no, "", 0); n != 0 || flags != 0 || e != api.ErrKind {
			t.Errorf("ToInt, format %d: %d %d %d", no, n, flags, e)
		}
	}
	for format := first; format <= last; format++ {
		for _, no := range wrongWays {
			for _, n := range []int{0, 1, math.MinInt64} {
				if s, flags, e := FromInt(n, format, no); s != "" || flags != 0 || e != api.ErrKind {
					t.Errorf("FromInt %d, format %d, way %d: %x %d %d", n, format, no, s, flags, e)
				}
			}
			for _, s := range edges(t, format) {
				if n, flags, e := ToInt(format, s, no); n != 0 || flags != 0 || e != api.ErrKind {
					t.Errorf("ToInt %x, format %d, way %d: %d %d %d", s, format, no, n, flags, e)
				}
				if n, flags, e := ToInt(format, s[1:], no); n != 0 || flags != 0 || e != api.ErrForm {
					t.Errorf("ToInt %x, format %d, way %d: %d %d %d", s[1:], format, no, n, flags, e)
				}
			}
		}
		if n, flags, e := ToInt(format, "12345", 1); n != 0 || flags != 0 || e != api.ErrForm {
			t.Errorf("ToInt of five bytes, format %d: %d %d %d", format, n, flags, e)
		}
	}
}
