package text

import (
	"encoding/binary"
	"math"
	"strconv"
	"strings"
	"testing"

	"slipstick/api"
	"slipstick/codec"
	"slipstick/conv"
)

func isPrinted(t *testing.T, format int, s string, digits int) {
	t.Helper()
	got, e := Print(format, s, digits)
	if want := printed(t, format, s, digits); got != want || e != api.OK {
		t.Errorf("%x of %d, by %d digits: %q, error %d, and must be %q", s, format, digits, got, e, want)
	}
}

func TestH3Lines(t *testing.T) {
	for _, l := range []struct {
		what   string
		format int
		s      string
		digits int
		want   string
	}{
		{"1", api.FormatSingle, "3f800000", 1, "1e0"},
		{"1 by more", api.FormatSingle, "3f800000", 4, "1.000e0"},
		{"-1.5", api.FormatSingle, "bfc00000", 2, "-1.5e0"},
		{"2.5, to what is even", api.FormatSingle, "40200000", 1, "2e0"},
		{"3.5, to what is even", api.FormatSingle, "40600000", 1, "4e0"},
		{"-2.5, to what is even", api.FormatSingle, "c0200000", 1, "-2e0"},
		{"just more than 2.5", api.FormatSingle, "40200001", 1, "3e0"},
		{"0.125", api.FormatHexShort, "40200000", 2, "1.2e-1"},
		{"0.375", api.FormatHexShort, "40600000", 2, "3.8e-1"},
		{"9.5 becomes ten", api.FormatSingle, "41180000", 1, "1e1"},
		{"99.5 becomes a hundred", api.FormatSingle, "42c70000", 2, "1.0e2"},
		{"8.5 does not", api.FormatSingle, "41080000", 1, "8e0"},
		{"0.999.. becomes 1", api.FormatSingle, "3f7fffff", 3, "1.00e0"},
		{"0.999.. by more", api.FormatSingle, "3f7fffff", 9, "9.99999940e-1"},
		{"10", api.FormatVaxF, "20420000", 3, "1.00e1"},
		{"0", api.FormatSingle, "00000000", 60, "0"},
		{"-0", api.FormatSingle, "80000000", 1, "-0"},
		{"-0 of 16, with an E", api.FormatHexShort, "c5000000", 3, "-0"},
		{"0 of words", api.FormatVaxF, "7f001234", 3, "0"},
		{"infinite", api.FormatDouble, "7ff0000000000000", 3, "inf"},
		{"infinite, with a sign", api.FormatExtended, "0000000000000080ffff", 3, "-inf"},
		{"none", api.FormatSingle, "7fc00000", 3, "none"},
		{"none, with a sign", api.FormatSingle, "ff800001", 3, "none"},
		{"without J", api.FormatExtended, "00000000000000400040", 3, "none"},
		{"reserved", api.FormatVaxG, "0f80000000000000", 3, "reserved"},
		{"unnormal, and 1", api.FormatHexShort, "42010000", 3, "1.00e0"},
		{"unnormal, and too small", api.FormatHexShort, "80000001", 3, "-5.15e-85"},
		{"with J, and E 0", api.FormatExtended, "00000000000000800000", 3, "3.36e-4932"},
		{"the least", api.FormatExtended, "01000000000000000000", 5, "3.6452e-4951"},
		{"the greatest", api.FormatExtended, "fffffffffffffffffe7f", 5, "1.1897e4932"},
		{"by 60 digits", api.FormatDouble, "3fb999999999999a", 60, "1.00000000000000005551115123125782702118158340454101562500000e-1"},
		{"0.1 by 55 digits", api.FormatDouble, "3fb999999999999a", 55, "1.000000000000000055511151231257827021181583404541015625e-1"},
		{"0.1 by 54 digits: a half", api.FormatDouble, "3fb999999999999a", 54, "1.00000000000000005551115123125782702118158340454101562e-1"},
	} {
		if got, e := Print(l.format, bytesOf(t, l.s), l.digits); got != l.want || e != api.OK {
			t.Errorf("%s: %q, error %d, and must be %q", l.what, got, e, l.want)
		}
	}
}

func TestH3OfAll(t *testing.T) {
	d := draw(84)
	for format := first; format <= last; format++ {
		for i, s := range edges(t, format) {
			for _, digits := range []int{1, 2, 1 + i%60, 60} {
				isPrinted(t, format, s, digits)
			}
		}
		for range 300 {
			isPrinted(t, format, d.pattern(t, format), 1+d.below(60))
		}
	}
}

// Halves: whole numbers of a few digits, printed by one less, and by two.
func TestH3Halves(t *testing.T) {
	for n := 1; n < 3000; n++ {
		s, _, e := conv.FromInt(n, api.FormatDouble, even)
		if e != api.OK {
			t.Fatal(e)
		}
		for digits := 1; digits <= 4; digits++ {
			isPrinted(t, api.FormatDouble, s, digits)
		}
	}
}

func TestH3AgainstLibrary(t *testing.T) {
	d := draw(85)
	for range 5000 {
		s := d.pattern(t, api.FormatDouble)
		x := math.Float64frombits(binary.BigEndian.Uint64([]byte(s)))
		if math.IsNaN(x) || math.IsInf(x, 0) || x == 0 {
			continue
		}
		digits := 1 + d.below(30)
		mantissa, power, _ := strings.Cut(strconv.FormatFloat(x, 'e', digits-1, 64), "e")
		n, err := strconv.Atoi(power)
		if err != nil {
			t.Fatal(err)
		}
		want := mantissa + "e" + strconv.Itoa(n)
		if got, e := Print(api.FormatDouble, s, digits); got != want || e != api.OK {
			t.Fatalf("%x by %d digits: %q, error %d, and must be %q", s, digits, got, e, want)
		}
	}
}

func TestH3Errors(t *testing.T) {
	wrong := []int{math.MinInt, -1, 0, 61, 62, math.MaxInt}
	for _, digits := range append([]int{1, 60}, wrong...) {
		for _, no := range wrongFormats {
			for _, s := range []string{"", "\x3f\x80\x00\x00"} {
				if text, e := Print(no, s, digits); text != "" || e != api.ErrKind {
					t.Errorf("%x of %d, by %d digits: %q %d", s, no, digits, text, e)
				}
			}
		}
		for format := first; format <= last; format++ {
			for _, s := range []string{"", "123", "12345", "123456789", strings.Repeat("1", 11)} {
				if text, e := Print(format, s, digits); text != "" || e != api.ErrForm {
					t.Errorf("%x of %d, by %d digits: %q %d", s, format, digits, text, e)
				}
			}
		}
	}
	for _, digits := range wrong {
		for format := first; format <= last; format++ {
			for _, s := range edges(t, format) {
				if text, e := Print(format, s, digits); text != "" || e != api.ErrRange {
					t.Errorf("%x of %d, by %d digits: %q %d", s, format, digits, text, e)
				}
			}
		}
	}
}

func TestH4Lines(t *testing.T) {
	for _, l := range []struct {
		what   string
		format int
		s      string
		want   string
	}{
		{"0.1", api.FormatDouble, "3fb999999999999a", "1e-1"},
		{"1", api.FormatSingle, "3f800000", "1e0"},
		{"-123456", api.FormatSingle, "c7f12000", "-1.23456e5"},
		{"2 to the power of 24", api.FormatSingle, "4b800000", "1.6777216e7"},
		{"the least", api.FormatDouble, "0000000000000001", "5e-324"},
		{"the greatest", api.FormatDouble, "7fefffffffffffff", "1.7976931348623157e308"},
		{"the greatest of 16: what is beyond is parsed so", api.FormatHexShort, "7fffffff", "7.24e75"},
		{"the same below 0", api.FormatHexLong, "ffffffffffffffff", "-7.24e75"},
		{"the least of 16", api.FormatHexShort, "00100000", "5.3976053e-79"},
		{"the least of words", api.FormatVaxF, "80000000", "2.938736e-39"},
		{"0", api.FormatVaxD, "0000000000000000", "0"},
		{"-0", api.FormatSingle, "80000000", "-0"},
		{"infinite", api.FormatSingle, "7f800000", "inf"},
		{"infinite, with a sign", api.FormatSingle, "ff800000", "-inf"},
		{"none", api.FormatSingle, "ffc00000", "none"},
		{"reserved", api.FormatVaxF, "00800000", "reserved"},
		{"unnormal, but the grid holds it", api.FormatHexShort, "42010000", "1e0"},
		{"with J, and E 0", api.FormatExtended, "00000000000000800000", "3.3621031431120935063e-4932"},
		// Its neighbour below is nearer than the one above, and 7.136238463529799e44 is nearer to that.
		{"2 to the power of 149", api.FormatDouble, "4940000000000000", "7.1362384635298e44"},
		{"16 to the power of 14", api.FormatHexShort, "4f100000", "7.20576e16"},
		{"16 to the power of 32", api.FormatHexLong, "6110000000000000", "3.402823669209385e38"},
		{"2 to the power of -645", api.FormatVaxG, "c017000000000000", "6.84940421565126e-195"},
	} {
		if got, e := Shortest(l.format, bytesOf(t, l.s)); got != l.want || e != api.OK {
			t.Errorf("%s: %q, error %d, and must be %q", l.what, got, e, l.want)
		}
	}
}

// fewest is what H4 says of a pattern of a number that the grid holds.
func fewest(t *testing.T, format int, s string) (string, int) {
	t.Helper()
	want, _ := decoded(t, format, s)
	for digits := 1; digits <= 60; digits++ {
		text := printed(t, format, s, digits)
		parsed, _, e := Parse(format, text, even)
		if e != api.OK {
			t.Fatal(text, e)
		}
		got, _ := decoded(t, format, parsed)
		if got.Class == want.Class && got.Neg == want.Neg && got.Power == want.Power && bigOf(got.Digits).Cmp(bigOf(want.Digits)) == 0 {
			return text, digits
		}
	}
	t.Fatalf("%x of %d: 60 digits are too few", s, format)
	return "", 0
}

func isShortest(t *testing.T, format int, s string) {
	t.Helper()
	got, e := Shortest(format, s)
	v, _ := decoded(t, format, s)
	made, f := codec.Encode(format, v)
	switch {
	case v.Class != api.ClassNumber:
		if want := printed(t, format, s, 1); got != want || e != api.OK {
			t.Errorf("%x of %d: %q, error %d, and must be %q", s, format, got, e, want)
		}
	case f != api.OK:
		if got != "" || e != api.ErrState {
			t.Errorf("%x of %d, which the grid does not hold: %q, error %d", s, format, got, e)
		}
	default:
		if want, _ := fewest(t, format, s); got != want || e != api.OK {
			t.Errorf("%x of %d: %q, error %d, and must be %q", s, format, got, e, want)
		}
		if parsed, _, e := Parse(format, got, even); parsed != made || e != api.OK {
			t.Errorf("%x of %d: %q is parsed as %x, error %d", s, format, got, parsed, e)
		}
	}
}

func TestH4H5OfAll(t *testing.T) {
	d := draw(86)
	for format := first; format <= last; format++ {
		list := edges(t, format)
		count := 200
		if format == api.FormatExtended {
			list, count = list[:24], 20
		}
		for range count {
			list = append(list, d.pattern(t, format))
		}
		for _, s := range list {
			isShortest(t, format, s)
		}
	}
}

func TestH4Errors(t *testing.T) {
	for _, no := range wrongFormats {
		for _, s := range []string{"", "\x3f\x80\x00\x00", "\x00\x00\x00\x01"} {
			if text, e := Shortest(no, s); text != "" || e != api.ErrKind {
				t.Errorf("%x of %d: %q %d", s, no, text, e)
			}
		}
	}
	for format := first; format <= last; format++ {
		for _, s := range []string{"", "123", "12345", "123456789", strings.Repeat("1", 11)} {
			if text, e := Shortest(format, s); text != "" || e != api.ErrForm {
				t.Errorf("%x of %d: %q %d", s, format, text, e)
			}
		}
	}
	for _, s := range []string{"00000001", "800fffff", "02000fff"} {
		if text, e := Shortest(api.FormatHexShort, bytesOf(t, s)); text != "" || e != api.ErrState {
			t.Errorf("%s: %q %d", s, text, e)
		}
	}
}

// What is printed shortest is parsed as it was, through another format that has all of it, too.
func TestH5ThroughAnotherFormat(t *testing.T) {
	d := draw(87)
	for from := first; from <= last; from++ {
		for over := first; over <= last; over++ {
			if ok, _ := conv.Exact(from, over); !ok {
				continue
			}
			list := edges(t, from)
			for range 40 {
				list = append(list, d.pattern(t, from))
			}
			for i, s := range list {
				v, _ := decoded(t, from, s)
				made, e := codec.Encode(from, v)
				if e != api.OK || v.Class != api.ClassNumber || over == api.FormatExtended && i%10 > 0 {
					continue
				}
				there, f, e := conv.Convert(from, s, over, even)
				text, g := Shortest(over, there)
				parsed, _, h := Parse(over, text, even)
				back, k, i := conv.Convert(over, parsed, from, even)
				if back != made || f != 0 || k != 0 || e != api.OK || g != api.OK || h != api.OK || i != api.OK {
					t.Fatalf("%x from %d over %d: %x, %q, %x, back %x", s, from, over, there, text, parsed, back)
				}
				if straight, _, e := Parse(from, text, even); straight != made || e != api.OK {
					t.Fatalf("%x from %d over %d: %q is parsed as %x", s, from, over, text, straight)
				}
			}
		}
	}
}

func TestP3SameEachTime(t *testing.T) {
	d := draw(88)
	for range 300 {
		format, digits := d.below(10), d.below(62)
		s := d.pattern(t, first+d.below(8))
		a, e := Print(format, s, digits)
		b, f := Shortest(format, s)
		// Others between change nothing.
		Parse(format, a, even)
		Print(format, s, digits+1)
		c, g := Print(format, s, digits)
		z, h := Shortest(format, s)
		if a != c || b != z || e != g || f != h {
			t.Fatalf("%x of %d: not the same again", s, format)
		}
	}
}
