package arith

import (
	"encoding/hex"
	"math"
	"math/big"
	"slices"
	"strings"
	"testing"

	"slipstick/api"
	"slipstick/codec"
)

// draw: numbers for long tests; the same each time.
type draw uint64

func (d *draw) below(n int) int {
	*d = *d*6364136223846793005 + 1442695040888963407
	return int(uint64(*d) >> 33 % uint64(n))
}

func (d *draw) bytes(n int) string {
	b := make([]byte, n)
	for i := range b {
		b[i] = byte(d.below(256))
	}
	return string(b)
}

var formats = []int{api.FormatSingle, api.FormatDouble, api.FormatExtended, api.FormatHexShort, api.FormatHexLong, api.FormatVaxF, api.FormatVaxD, api.FormatVaxG}

var wrongFormats = []int{math.MinInt, -1, 0, 9, math.MaxInt}

var wrongWays = []int{math.MinInt, -1, 0, 6, math.MaxInt}

// bytesOf a text to the base of 16.
func bytesOf(t *testing.T, text string) string {
	t.Helper()
	b, err := hex.DecodeString(text)
	if err != nil {
		t.Fatal(err)
	}
	return string(b)
}

// extremes of a format: what lies at its edges, and some plain numbers.
func (f form) extremes(t *testing.T) []string {
	whole := new(big.Int).Lsh(big.NewInt(1), uint(f.bits*(f.Digits-1)))
	one := big.NewInt(1)
	numbers := []api.Value{
		{Digits: api.Nat{1}}, {Digits: api.Nat{3}}, {Digits: api.Nat{3}, Power: -1}, {Digits: api.Nat{0xaaaaab}, Power: -f.Digits},
		{Digits: toNat(whole), Power: f.Least}, {Digits: toNat(new(big.Int).Add(whole, one)), Power: f.Least},
		{Digits: toNat(new(big.Int).Add(whole, one)), Power: 1 - f.Digits},
		{Digits: toNat(whole), Power: f.Greatest}, {Digits: f.greatest(false).Digits, Power: f.Greatest},
		{Digits: f.greatest(false).Digits, Power: -f.Digits}, {Digits: toNat(whole), Power: (f.Least - f.Digits) / 2},
	}
	if f.Gradual {
		numbers = append(numbers, api.Value{Digits: api.Nat{1}, Power: f.Least}, api.Value{Digits: api.Nat{5}, Power: f.Least},
			api.Value{Digits: toNat(new(big.Int).Sub(whole, one)), Power: f.Least})
	}
	list := []string{f.encode(t, api.Value{Class: api.ClassZero}), f.nothing(t)}
	for _, v := range numbers {
		v.Class = api.ClassNumber
		list = append(list, f.encode(t, v))
		v.Neg = true
		list = append(list, f.encode(t, v))
	}
	switch f.family {
	case 'A':
		list = append(list, f.infinite(t, false), f.infinite(t, true), f.encode(t, api.Value{Class: api.ClassZero, Neg: true}))
	case 'B':
		// 0 with a sign and an exponent; a number that is not whole; one that the grid has not.
		size := len(list[0]) - 1
		list = append(list, "\xc3"+strings.Repeat("\x00", size), "\x43\x00\x10\x00"+strings.Repeat("\x00", size-3),
			"\x00"+strings.Repeat("\x00", size-1)+"\x07", "\x80\x0f"+strings.Repeat("\xff", size-1))
	}
	if f.format == api.FormatExtended {
		// The leading digit missing; there below the least E.
		list = append(list, bytesOf(t, "00000000000000400040"), bytesOf(t, "01000000000000800000"))
	}
	return list
}

type pair struct {
	name string
	call func(format int, a, b string, way int) (string, int, api.Errno)
	want func(f form, t *testing.T, a, b value, way int) (string, int)
}

func pairs() []pair {
	return []pair{{"Add", Add, form.add}, {"Sub", Sub, form.sub}, {"Mul", Mul, form.mul}, {"Div", Div, form.div}}
}

func (f form) checkPair(t *testing.T, a, b string, way int) {
	t.Helper()
	x, y := f.decode(t, a), f.decode(t, b)
	for _, c := range pairs() {
		s, flags, e := c.call(f.format, a, b, way)
		want, wanted := c.want(f, t, x, y, way)
		if s != want || flags != wanted || e != api.OK {
			t.Fatalf("%s of %x and %x of %d by %d: %x %d, error %d, and must be %x %d", c.name, a, b, f.format, way, s, flags, e, want, wanted)
		}
	}
	order, ok, e := Compare(f.format, a, b)
	if want, wanted := f.compare(x, y); order != want || ok != wanted || e != api.OK {
		t.Fatalf("Compare of %x and %x of %d: %d %v, error %d, and must be %d %v", a, b, f.format, order, ok, e, want, wanted)
	}
}

func (f form) checkSqrt(t *testing.T, a string, way int) {
	t.Helper()
	s, flags, e := Sqrt(f.format, a, way)
	if want, wanted := f.sqrt(t, f.decode(t, a), way); s != want || flags != wanted || e != api.OK {
		t.Fatalf("Sqrt of %x of %d by %d: %x %d, error %d, and must be %x %d", a, f.format, way, s, flags, e, want, wanted)
	}
}

func (f form) checkFused(t *testing.T, a, b, c string, way int) {
	t.Helper()
	s, flags, e := Fused(f.format, a, b, c, way)
	want, wanted := f.fused(t, f.decode(t, a), f.decode(t, b), f.decode(t, c), way)
	if s != want || flags != wanted || e != api.OK {
		t.Fatalf("Fused of %x, %x and %x of %d by %d: %x %d, error %d, and must be %x %d", a, b, c, f.format, way, s, flags, e, want, wanted)
	}
}

func TestF3ToF7Extremes(t *testing.T) {
	for _, format := range formats {
		f := formOf(t, format)
		list := f.extremes(t)
		d := draw(format)
		for i, a := range list {
			for way := api.RoundEven; way <= api.RoundDown; way++ {
				f.checkSqrt(t, a, way)
				for j, b := range list {
					if format != api.FormatExtended || (i+j+way)%3 == 0 {
						f.checkPair(t, a, b, way)
					}
					f.checkFused(t, a, b, list[d.below(len(list))], way)
				}
			}
		}
	}
}

func TestF3ToF7Drawn(t *testing.T) {
	for _, format := range formats {
		f := formOf(t, format)
		d := draw(100 + format)
		size, _ := codec.Size(format)
		for range 400 {
			way := 1 + d.below(5)
			a, b, c := d.bytes(size), d.bytes(size), d.bytes(size)
			f.checkPair(t, a, b, way)
			f.checkSqrt(t, a, way)
			f.checkFused(t, a, b, c, way)
		}
	}
}

// near draws a number whose exponent is next to that of 1, so that sums and products lie near one another.
func (f form) near(t *testing.T, d *draw) string {
	n := new(big.Int)
	for range 3 {
		n.Or(n.Lsh(n, 31), big.NewInt(int64(d.below(1<<31))))
	}
	n.Rsh(n, uint(93-f.bits*f.Digits))
	// Many bits that are alike make halves.
	switch d.below(3) {
	case 0:
		n.Rsh(n, uint(f.Digits/2)).Lsh(n, uint(f.Digits/2))
	case 1:
		n.SetBit(n.Rsh(n, uint(d.below(f.Digits))), 0, 1)
	}
	if n.Sign() == 0 {
		n.SetInt64(1)
	}
	return f.encode(t, api.Value{Class: api.ClassNumber, Neg: d.below(2) == 0, Digits: toNat(n), Power: d.below(2*f.Digits) - f.Digits})
}

func TestF3ToF7Near(t *testing.T) {
	for _, format := range formats {
		f := formOf(t, format)
		d := draw(200 + format)
		for range 1500 {
			way := 1 + d.below(5)
			a, b, c := f.near(t, &d), f.near(t, &d), f.near(t, &d)
			f.checkPair(t, a, b, way)
			f.checkSqrt(t, a, way)
			f.checkFused(t, a, b, c, way)
			// What is taken away is nearly all of it.
			p, _, _ := Mul(format, a, b, way)
			minus, _, _ := Sub(format, f.encode(t, api.Value{Class: api.ClassZero}), p, way)
			f.checkFused(t, a, b, minus, way)
		}
	}
}

func TestF1Errors(t *testing.T) {
	type call = func(format int, way int, a, b, c string) (string, int, api.Errno)
	calls := map[string]call{
		"Add":   func(format, way int, a, b, _ string) (string, int, api.Errno) { return Add(format, a, b, way) },
		"Sub":   func(format, way int, a, b, _ string) (string, int, api.Errno) { return Sub(format, a, b, way) },
		"Mul":   func(format, way int, a, b, _ string) (string, int, api.Errno) { return Mul(format, a, b, way) },
		"Div":   func(format, way int, a, b, _ string) (string, int, api.Errno) { return Div(format, a, b, way) },
		"Fused": func(format, way int, a, b, c string) (string, int, api.Errno) { return Fused(format, a, b, c, way) },
		"Sqrt":  func(format, way int, a, _, _ string) (string, int, api.Errno) { return Sqrt(format, a, way) },
		"Compare": func(format, _ int, a, b, _ string) (string, int, api.Errno) {
			order, ok, e := Compare(format, a, b)
			if ok {
				return "ok", order, e
			}
			return "", order, e
		},
	}
	taken := map[string]int{"Sqrt": 1, "Fused": 3}
	for name, call := range calls {
		check := func(format, way int, a, b, c string, want api.Errno) {
			t.Helper()
			if s, flags, e := call(format, way, a, b, c); s != "" || flags != 0 || e != want {
				t.Errorf("%s of %x, %x, %x of %d by %d: %x %d, error %d, and must be %d", name, a, b, c, format, way, s, flags, e, want)
			}
		}
		for _, format := range wrongFormats {
			check(format, 0, "", "1234", "", api.ErrKind)
			check(format, 1, "1234", "1234", "1234", api.ErrKind)
		}
		for _, format := range formats {
			size, _ := codec.Size(format)
			good := strings.Repeat("\x41", size)
			for n := range 12 {
				bad := strings.Repeat("\xff", n)
				if n == size {
					continue
				}
				for _, way := range []int{0, 1} {
					check(format, way, bad, good, good, api.ErrForm)
					if name != "Sqrt" {
						check(format, way, good, bad, good, api.ErrForm)
					}
					if taken[name] == 3 {
						check(format, way, good, good, bad, api.ErrForm)
					}
				}
			}
			for _, way := range wrongWays {
				if name != "Compare" {
					check(format, way, good, good, good, api.ErrKind)
					none := formOf(t, format).nothing(t)
					check(format, way, none, none, none, api.ErrKind)
				}
			}
		}
	}
}

// Of each family, what has no answer.
func TestF2Nothing(t *testing.T) {
	for format, want := range map[int]string{
		api.FormatSingle: "7fc00000", api.FormatDouble: "7ff8000000000000", api.FormatExtended: "00000000000000c0ff7f",
		api.FormatHexShort: "00000000", api.FormatHexLong: "0000000000000000",
		api.FormatVaxF: "00800000", api.FormatVaxD: "0080000000000000", api.FormatVaxG: "0080000000000000",
	} {
		zero := formOf(t, format).encode(t, api.Value{Class: api.ClassZero})
		if s, flags, e := Div(format, zero, zero, api.RoundEven); s != bytesOf(t, want) || flags != api.FlagInvalid || e != api.OK {
			t.Errorf("0 over 0 of %d: %x %d, error %d", format, s, flags, e)
		}
	}
}

func ratio(neg bool, num, den uint32, exp int) api.Ratio {
	return api.Ratio{Neg: neg, Num: api.Nat{num}, Den: api.Nat{den}, Exp: exp}
}

func TestF3Edges(t *testing.T) {
	const under, over = api.FlagUnder + api.FlagInexact, api.FlagOver + api.FlagInexact
	for _, c := range []struct {
		what   string
		format int
		q      api.Ratio
		way    int
		want   string
		flags  int
	}{
		{"exact", api.FormatSingle, ratio(false, 3, 1, 0), api.RoundEven, "40400000", 0},
		{"not exact", api.FormatSingle, ratio(true, 1, 3, 0), api.RoundEven, "beaaaaab", api.FlagInexact},
		{"a ratio that is 0", api.FormatSingle, api.Ratio{Neg: true, Den: api.Nat{3}}, api.RoundDown, "00000000", 0},
		{"exact, with fewer digits", api.FormatSingle, ratio(true, 5, 1, -149), api.RoundEven, "80000005", 0},
		{"fewer digits", api.FormatSingle, ratio(false, 11, 1, -150), api.RoundEven, "00000006", under},
		{"to 0", api.FormatSingle, ratio(false, 1, 1, -150), api.RoundEven, "00000000", under},
		{"to 0 with its sign", api.FormatSingle, ratio(true, 1, 1, -200), api.RoundUp, "80000000", under},
		{"away from 0", api.FormatSingle, ratio(true, 1, 1, -200), api.RoundDown, "80000001", under},
		{"to the least with all digits", api.FormatSingle, ratio(false, 1<<24-1, 1, -150), api.RoundEven, "00800000", under},
		{"the greatest", api.FormatSingle, ratio(false, 1<<24-1, 1, 104), api.RoundEven, "7f7fffff", 0},
		{"not beyond it", api.FormatSingle, ratio(false, 1<<25-1, 1, 103), api.RoundZero, "7f7fffff", api.FlagInexact},
		{"beyond it", api.FormatSingle, ratio(false, 1<<25-1, 1, 103), api.RoundEven, "7f800000", over},
		{"beyond it, exact", api.FormatSingle, ratio(true, 1, 1, 128), api.RoundAway, "ff800000", over},
		{"beyond it, to 0", api.FormatSingle, ratio(true, 1, 1, 128), api.RoundZero, "ff7fffff", over},
		{"beyond it, up", api.FormatSingle, ratio(false, 1, 1, 128), api.RoundUp, "7f800000", over},
		{"beyond it, up, below 0", api.FormatSingle, ratio(true, 1, 1, 128), api.RoundUp, "ff7fffff", over},
		{"beyond it, down", api.FormatSingle, ratio(false, 1, 1, 128), api.RoundDown, "7f7fffff", over},
		{"beyond it, down, below 0", api.FormatSingle, ratio(true, 1, 1, 128), api.RoundDown, "ff800000", over},
		{"far beyond it", api.FormatExtended, ratio(false, 1, 3, 20000), api.RoundEven, "0000000000000080ff7f", over},
		{"far below", api.FormatExtended, ratio(true, 1, 3, -20000), api.RoundDown, "01000000000000000080", under},
		{"to the base of 16", api.FormatHexShort, ratio(true, 1, 3, 0), api.RoundDown, "c0555556", api.FlagInexact},
		{"beyond it, to the base of 16", api.FormatHexShort, ratio(true, 1, 1, 252), api.RoundEven, "ffffffff", over},
		{"beyond it, up, to the base of 16", api.FormatHexLong, ratio(false, 1, 1, 252), api.RoundUp, "7fffffffffffffff", over},
		{"the least of 16", api.FormatHexShort, ratio(true, 1, 1, -260), api.RoundEven, "80100000", 0},
		{"exact, and under the least power", api.FormatHexShort, ratio(true, 15, 1, -264), api.RoundUp, "00000000", under},
		{"under it, and nothing of it left", api.FormatHexShort, ratio(true, 1, 7, -20000), api.RoundDown, "00000000", under},
		{"up to Least by being rounded", api.FormatHexShort, ratio(false, 1<<25-1, 1, -285), api.RoundEven, "00100000", under},
		{"up to Least, below 0", api.FormatHexShort, ratio(true, 1<<25-1, 1, -285), api.RoundDown, "80100000", under},
		{"not up to it", api.FormatHexShort, ratio(false, 1<<25-1, 1, -285), api.RoundZero, "00000000", under},
		{"beyond it, of words", api.FormatVaxF, ratio(true, 1, 1, 127), api.RoundZero, "00800000", over},
		{"beyond it by being rounded, of words", api.FormatVaxF, ratio(false, 1<<25-1, 1, 102), api.RoundUp, "00800000", over},
		{"the greatest, of words", api.FormatVaxF, ratio(true, 1<<25-1, 1, 102), api.RoundUp, "ffffffff", api.FlagInexact},
		{"the least, of words", api.FormatVaxF, ratio(true, 1, 1, -128), api.RoundUp, "80800000", 0},
		{"exact, and under it, of words", api.FormatVaxF, ratio(true, 1, 1, -129), api.RoundDown, "00000000", under},
		{"up to Least, of words", api.FormatVaxF, ratio(false, 1<<25-1, 1, -153), api.RoundEven, "80000000", under},
		{"not up to Least, of words", api.FormatVaxF, ratio(true, 1<<25-1, 1, -153), api.RoundUp, "00000000", under},
	} {
		if s, flags, e := Fit(c.format, c.q, c.way); s != bytesOf(t, c.want) || flags != c.flags || e != api.OK {
			t.Errorf("%s: %x %d, error %d, and must be %s %d", c.what, s, flags, e, c.want, c.flags)
		}
	}
}

func TestF3FitDrawn(t *testing.T) {
	for _, format := range formats {
		f := formOf(t, format)
		d := draw(300 + format)
		edges := []int{f.bits * f.Least, f.bits * (f.Least + f.Digits), f.bits * f.Greatest, f.bits * (f.Greatest + f.Digits), 0}
		for range 1500 {
			q := api.Ratio{Neg: d.below(2) == 0, Num: api.Nat{uint32(d.below(1 << 31)), 1 + uint32(d.below(1<<30))}, Den: api.Nat{1 + uint32(d.below(9))}}
			if d.below(4) == 0 {
				q.Num = api.Nat{math.MaxUint32, math.MaxUint32, math.MaxUint32 >> d.below(32)}
			}
			q.Exp = edges[d.below(len(edges))] + d.below(16) - 8 - 32*len(q.Num) + 32*d.below(2)
			way := 1 + d.below(5)
			s, flags, e := Fit(format, q, way)
			want, wanted := f.fit(t, exact{q.Neg, toBig(q.Num), toBig(q.Den), q.Exp}, way)
			if s != want || flags != wanted || e != api.OK {
				t.Fatalf("%v of %d by %d: %x %d, error %d, and must be %x %d", q, format, way, s, flags, e, want, wanted)
			}
		}
	}
}

func TestF3FitErrors(t *testing.T) {
	form, many := api.Nat{1, 0}, slices.Repeat(api.Nat{1}, api.MaxDigits+1)
	one := api.Nat{1}
	check := func(format int, q api.Ratio, way int, want api.Errno) {
		t.Helper()
		if s, flags, e := Fit(format, q, way); s != "" || flags != 0 || e != want {
			t.Errorf("%v of %d by %d: %x %d, error %d, and must be %d", q, format, way, s, flags, e, want)
		}
	}
	for _, format := range wrongFormats {
		check(format, api.Ratio{Num: form, Den: many, Exp: 20001}, 0, api.ErrKind)
		check(format, ratio(false, 1, 1, 0), 1, api.ErrKind)
	}
	for _, format := range formats {
		check(format, api.Ratio{Num: form, Den: many, Exp: 20001}, 0, api.ErrForm)
		check(format, api.Ratio{Num: many, Den: form, Exp: 20001}, 0, api.ErrMany)
		check(format, api.Ratio{Num: one, Den: form, Exp: 20001}, 0, api.ErrForm)
		check(format, api.Ratio{Den: many, Exp: 20001}, 0, api.ErrMany)
		check(format, api.Ratio{Num: one}, 0, api.ErrRange)
		check(format, api.Ratio{}, 1, api.ErrRange)
		check(format, ratio(false, 1, 1, 20001), 0, api.ErrRange)
		check(format, ratio(false, 1, 1, math.MinInt), 1, api.ErrRange)
		for _, way := range wrongWays {
			check(format, ratio(false, 1, 1, 0), way, api.ErrKind)
			check(format, api.Ratio{Den: one}, way, api.ErrKind)
		}
	}
}
