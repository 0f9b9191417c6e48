package text

import (
	"encoding/binary"
	"math"
	"regexp"
	"slices"
	"strconv"
	"strings"
	"testing"

	"slipstick/api"
	"slipstick/arith"
)

// isRatio holds Ratio against what H1 says of a numeral in bounds.
func isRatio(t *testing.T, text string) {
	t.Helper()
	got, e := Ratio(text)
	want := ratioOf(t, text)
	if got.Neg != want.Neg || !slices.Equal(got.Num, want.Num) || !slices.Equal(got.Den, want.Den) || got.Exp != want.Exp || e != api.OK {
		t.Errorf("%.60q: %v, error %d, and must be %v", text, got, e, want)
	}
}

// numerals: with and without a point, with noughts ahead and behind, with a power at both bounds.
func numerals() []string {
	long := strings.Repeat("9", 400)
	return []string{
		"0", "-0", "0.0", "-.0", "00", "0e5", "-0e-5", "0e6000", "0e-6000", "0.000e-5997",
		"1", "-1", "5", "10", "25", "0.1", ".1", "-.5", "0.5", "1.5", "-2.50", "0012.3400", "000125e-3", "12500e-3",
		"1e0", "1e-0", "1e00", "1e00005", "1e-00005", "1e5", "1e6000", "1e-6000", "-1e6000", "1.5e-5999", "12.5e-5999",
		"1.0e6000", "0.1e6001", "0.01e6002", "3e6000", "625e-4", "15625e-6", "3125e-5", "5e-1", "1e-1", "0.2e1",
		"390625e-6000", "2e-6000", "123456789e-5", "3.14159265358979323846264338327950288",
		"9007199254740993", "72057594037927937", "18446744073709551616", "4294967296", "4294967295",
		long, "." + long[1:], "-" + long[1:], long[:395] + "e6000"[:5], long[:393] + "e-06000"[:7], "0." + strings.Repeat("0", 390) + "1",
		strings.Repeat("0", 399) + "1", "1" + strings.Repeat("0", 399), "1." + strings.Repeat("0", 398),
	}
}

func TestH1Numerals(t *testing.T) {
	for _, text := range numerals() {
		isRatio(t, text)
	}
	d := draw(81)
	digits := func(n int) string {
		b := make([]byte, n)
		for i := range b {
			b[i] = "0000123455678999"[d.below(16)]
		}
		return string(b)
	}
	for range 3000 {
		text := digits(d.below(30))
		if d.below(2) == 0 || text == "" {
			text += "." + digits(1+d.below(30))
		}
		if d.below(2) == 0 {
			text = "-" + text
		}
		switch d.below(3) {
		case 0:
			text += "e" + strconv.Itoa(d.below(400)-200)
		case 1:
			text += "e-0" + digits(1+d.below(3))
		}
		isRatio(t, text)
	}
}

func TestH1Lines(t *testing.T) {
	for _, l := range []struct {
		text string
		want api.Ratio
	}{
		{"0.1", api.Ratio{Num: api.Nat{1}, Den: api.Nat{5}, Exp: -1}},
		{"-12.5", api.Ratio{Neg: true, Num: api.Nat{25}, Den: api.Nat{1}, Exp: -1}},
		{"1e2", api.Ratio{Num: api.Nat{25}, Den: api.Nat{1}, Exp: 2}},
		{"75e-3", api.Ratio{Num: api.Nat{3}, Den: api.Nat{5}, Exp: -3}},
		{"-0.00", api.Ratio{Den: api.Nat{1}}},
	} {
		got, e := Ratio(l.text)
		if got.Neg != l.want.Neg || !slices.Equal(got.Num, l.want.Num) || !slices.Equal(got.Den, l.want.Den) || got.Exp != l.want.Exp || e != api.OK {
			t.Errorf("%s: %v, error %d, and must be %v", l.text, got, e, l.want)
		}
	}
}

// wrongTexts, and what is wrong with them; of several things the first.
func wrongTexts() map[string]api.Errno {
	list := map[string]api.Errno{
		strings.Repeat("1", 401): api.ErrMany, strings.Repeat("x", 401): api.ErrMany, "1e9999" + strings.Repeat(" ", 400): api.ErrMany,
		strings.Repeat("0", 100000): api.ErrMany,
		"1e6001":                    api.ErrRange, "1e-6001": api.ErrRange, "0e6001": api.ErrRange, "-0e-6001": api.ErrRange, "0.1e-6000": api.ErrRange,
		"0.0e-6000": api.ErrRange, "1.00e-5999": api.ErrRange, "1e99999": api.ErrRange, "1e-99999": api.ErrRange, "0.1e6002": api.ErrRange, ".1e06002": api.ErrRange,
		"1e6001x": api.ErrForm, "x1e6001": api.ErrForm, "1.e6001": api.ErrForm,
		strings.Repeat("x", 400): api.ErrForm,
	}
	for _, s := range []string{
		"", "-", ".", "-.", "1.", "-1.", "1.e5", "e", "e5", "-e5", ".e5", "1e", "1e-", "1e+1", "+1", "1e100000", "1e000001", "1e-000001", "1e--1",
		"--1", "1-", "1e1-", "1e1.5", "1e1e1", "1.2.3", "1..2", " 1", "1 ", "1 e5", "1e 5", "0x1", "1E5", "1_0", "1,5", "inf", "-inf", "none", "reserved", "nan",
		"1\n", "\x001", "1\x00", "\xff", "1e\xff", "٣", "１", "1e１", "-\xe2\x88\x92" + "1", "−1", "1/2", "1:", "1.5:", "1e:", "/1",
	} {
		list[s] = api.ErrForm
	}
	return list
}

func TestH1Errors(t *testing.T) {
	for text, want := range wrongTexts() {
		if q, e := Ratio(text); q.Neg || len(q.Num) > 0 || len(q.Den) > 0 || q.Exp != 0 || e != want {
			t.Errorf("%.40q: %v, error %d, and must be %d", text, q, e, want)
		}
	}
}

func TestH1Forms(t *testing.T) {
	form := regexp.MustCompile(`^-?([0-9]+(\.[0-9]+)?|\.[0-9]+)(e-?[0-9]{1,5})?$`)
	d := draw(82)
	for range 200000 {
		b := make([]byte, d.below(9))
		for i := range b {
			b[i] = "-..ee0159+ "[d.below(11)]
		}
		text := string(b)
		_, e := Ratio(text)
		if yes := form.MatchString(text); yes != (e != api.ErrForm) {
			t.Fatalf("%q: error %d, and it is a numeral: %v", text, e, yes)
		}
	}
}

func TestH2IsFit(t *testing.T) {
	texts := append(numerals(), "16777217", "1e-45", "7e-46", "1e38", "3.4e38", "3.5e38", "5e-324", "2e-324", "1.7976931348623157e308", "2e308", "-2e308",
		"1e-78", "7.2e75", "1e76", "-1e76", "1e4932", "2e4932", "-1e-4950", "1e-4952", "2.9e-39", "-2.9e-39", "1.7e38", "-1.8e38", "1e22", "1e23", "0.000001")
	for _, text := range texts {
		q := ratioOf(t, text)
		for format := first; format <= last; format++ {
			for way := even; way <= down; way++ {
				got, flags, e := Parse(format, text, way)
				want, told, f := arith.Fit(format, q, way)
				if got != want || flags != told || e != api.OK || f != api.OK {
					t.Errorf("%.40q, format %d, way %d: %x %d, error %d, and must be %x %d", text, format, way, got, flags, e, want, told)
				}
			}
		}
	}
}

func TestH2Lines(t *testing.T) {
	for _, l := range []struct {
		format int
		text   string
		way    int
		want   string
		flags  int
	}{
		{api.FormatDouble, "0.1", even, "3fb999999999999a", 1},
		{api.FormatDouble, "0.1", down, "3fb9999999999999", 1},
		{api.FormatSingle, "-0", down, "00000000", 0},
		{api.FormatHexShort, "-0", even, "00000000", 0},
		{api.FormatVaxF, "-0.0e5", even, "00000000", 0},
		{api.FormatSingle, "-1e-60", even, "80000000", 3},
		{api.FormatSingle, "1e39", even, "7f800000", 5},
		{api.FormatHexLong, "-1e76", even, "ffffffffffffffff", 5},
		{api.FormatVaxD, "1e39", down, "0080000000000000", 5},
		{api.FormatVaxG, "3", even, "2840000000000000", 0},
		{api.FormatExtended, "1e-4950", even, "03000000000000000000", 3},
		{api.FormatExtended, "1.5", even, "00000000000000c0ff3f", 0},
	} {
		if got, flags, e := Parse(l.format, l.text, l.way); got != bytesOf(t, l.want) || flags != l.flags || e != api.OK {
			t.Errorf("%+v: %x %d, error %d", l, got, flags, e)
		}
	}
}

// The library's own points are parsed by the nearest, halves to what is even.
func TestH2AgainstLibrary(t *testing.T) {
	d := draw(83)
	for range 5000 {
		text := strconv.Itoa(d.below(1<<31)) + strconv.Itoa(d.below(1<<31)) + "." + strconv.Itoa(d.below(1<<31)) + "e" + strconv.Itoa(d.below(80)-50)
		if d.below(2) == 0 {
			text = strings.ReplaceAll(text, ".", "") + strconv.Itoa(d.below(10))
		}
		double, _ := strconv.ParseFloat(text, 64)
		single, _ := strconv.ParseFloat(text, 32)
		if got, _, e := Parse(api.FormatDouble, text, even); e != api.OK || binary.BigEndian.Uint64([]byte(got)) != math.Float64bits(double) {
			t.Fatalf("%s: %x, error %d, and must be %x", text, got, e, math.Float64bits(double))
		}
		if got, _, e := Parse(api.FormatSingle, text, even); e != api.OK || binary.BigEndian.Uint32([]byte(got)) != math.Float32bits(float32(single)) {
			t.Fatalf("%s: %x, error %d, and must be %x", text, got, e, math.Float32bits(float32(single)))
		}
	}
}

func TestH2Errors(t *testing.T) {
	for text, want := range wrongTexts() {
		for _, way := range append([]int{even, down}, wrongWays...) {
			for format := first; format <= last; format++ {
				if s, flags, e := Parse(format, text, way); s != "" || flags != 0 || e != want {
					t.Errorf("%.40q, format %d, way %d: %x %d %d", text, format, way, s, flags, e)
				}
			}
			for _, no := range wrongFormats {
				if s, flags, e := Parse(no, text, way); s != "" || flags != 0 || e != api.ErrKind {
					t.Errorf("%.40q, format %d, way %d: %x %d %d", text, no, way, s, flags, e)
				}
			}
		}
	}
	for _, text := range []string{"0", "-0", "1", "1e6000", "1e-6000"} {
		for _, no := range wrongWays {
			for format := first; format <= last; format++ {
				if s, flags, e := Parse(format, text, no); s != "" || flags != 0 || e != api.ErrKind {
					t.Errorf("%q, format %d, way %d: %x %d %d", text, format, no, s, flags, e)
				}
			}
		}
		for _, no := range wrongFormats {
			if s, flags, e := Parse(no, text, even); s != "" || flags != 0 || e != api.ErrKind {
				t.Errorf("%q, format %d: %x %d %d", text, no, s, flags, e)
			}
		}
	}
}

func TestP2RatioIsNew(t *testing.T) {
	for _, text := range []string{"0", "5", "0.3", "1e40", "1e-40", "3e-6000"} {
		q, e := Ratio(text)
		if e != api.OK {
			t.Fatal(e)
		}
		full := slices.Clone(q.Den)
		for i := range q.Num[:cap(q.Num)] {
			q.Num[:cap(q.Num)][i] = 77
		}
		if !slices.Equal(q.Den, full) {
			t.Errorf("%s: Num and Den share memory", text)
		}
		for i := range q.Den[:cap(q.Den)] {
			q.Den[:cap(q.Den)][i] = 78
		}
		isRatio(t, text)
	}
}
