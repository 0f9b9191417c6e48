package arith

import (
	"encoding/binary"
	"math"
	"slices"
	"strings"
	"testing"

	"slipstick/api"
	"slipstick/codec"
)

// line of a table: what is asked (by one letter), of which patterns of FormatSingle (or another one), and what comes.
type line struct {
	what    string
	format  int
	do      byte
	a, b, c string
	way     int
	want    string
	flags   int
}

func (l line) check(t *testing.T) {
	t.Helper()
	a, b, c := bytesOf(t, l.a), bytesOf(t, l.b), bytesOf(t, l.c)
	var s string
	var flags int
	var e api.Errno
	switch l.do {
	case '+':
		s, flags, e = Add(l.format, a, b, l.way)
	case '-':
		s, flags, e = Sub(l.format, a, b, l.way)
	case '*':
		s, flags, e = Mul(l.format, a, b, l.way)
	case '/':
		s, flags, e = Div(l.format, a, b, l.way)
	case 'f':
		s, flags, e = Fused(l.format, a, b, c, l.way)
	case 'r':
		s, flags, e = Sqrt(l.format, a, l.way)
	}
	if s != bytesOf(t, l.want) || flags != l.flags || e != api.OK {
		t.Errorf("%s: %x %d, error %d, and must be %s %d", l.what, s, flags, e, l.want, l.flags)
	}
}

const (
	zero, minusZero   = "00000000", "80000000"
	one, minusOne     = "3f800000", "bf800000"
	two, tiny         = "40000000", "00000001"
	infinite, minus   = "7f800000", "ff800000"
	none, odd         = "7fc00000", "ff800001" // two that are no numbers
	hexOne, hexMinus  = "41100000", "c1100000"
	vaxOne, vaxMinus  = "80400000", "80c00000"
	reserved, another = "00800000", "00803412" // two that are reserved
)

func TestF3Example(t *testing.T) {
	line{"1 and 1", api.FormatSingle, '+', one, one, "", api.RoundEven, two, 0}.check(t)
}

func TestF4Zeros(t *testing.T) {
	const single, hexes, vax = api.FormatSingle, api.FormatHexShort, api.FormatVaxF
	for way := api.RoundEven; way <= api.RoundDown; way++ {
		other := zero
		if way == api.RoundDown {
			other = minusZero
		}
		for _, l := range []line{
			{"0 and 0", single, '+', zero, zero, "", way, zero, 0},
			{"-0 and -0", single, '+', minusZero, minusZero, "", way, minusZero, 0},
			{"0 and -0", single, '+', zero, minusZero, "", way, other, 0},
			{"-0 and 0", single, '+', minusZero, zero, "", way, other, 0},
			{"1 and -1", single, '+', one, minusOne, "", way, other, 0},
			{"1 less 1", single, '-', one, one, "", way, other, 0},
			{"0 less 0", single, '-', zero, zero, "", way, other, 0},
			{"0 less -0", single, '-', zero, minusZero, "", way, zero, 0},
			{"-0 less 0", single, '-', minusZero, zero, "", way, minusZero, 0},
			{"-0 less -0", single, '-', minusZero, minusZero, "", way, other, 0},
			{"0 times 1", single, '*', zero, one, "", way, zero, 0},
			{"0 times -1", single, '*', zero, minusOne, "", way, minusZero, 0},
			{"-0 times -1", single, '*', minusZero, minusOne, "", way, zero, 0},
			{"-0 times 0", single, '*', minusZero, zero, "", way, minusZero, 0},
			{"0 over -1", single, '/', zero, minusOne, "", way, minusZero, 0},
			{"-0 over -1", single, '/', minusZero, minusOne, "", way, zero, 0},
			{"1 times 1, less 1", single, 'f', one, one, minusOne, way, other, 0},
			{"0 times -1, and -0", single, 'f', zero, minusOne, minusZero, way, minusZero, 0},
			{"0 times -1, and 0", single, 'f', zero, minusOne, zero, way, other, 0},
			{"0 times 1, and 0", single, 'f', zero, one, zero, way, zero, 0},
			{"-0 times 1, and 1", single, 'f', minusZero, one, one, way, one, 0},
			{"root of 0", single, 'r', zero, "", "", way, zero, 0},
			{"root of -0", single, 'r', minusZero, "", "", way, minusZero, 0},
			// To the base of 16, and of words, 0 comes without a sign.
			{"1 less 1 of 16", hexes, '-', hexOne, hexOne, "", way, zero, 0},
			{"-0 and -0 of 16", hexes, '+', minusZero, "c5000000", "", way, zero, 0},
			{"-0 times 1 of 16", hexes, '*', minusZero, hexOne, "", way, zero, 0},
			{"-0 over 1 of 16", hexes, '/', minusZero, hexOne, "", way, zero, 0},
			{"root of -0 of 16", hexes, 'r', minusZero, "", "", way, zero, 0},
			{"0 times -1, and 0 of 16", hexes, 'f', zero, hexMinus, minusZero, way, zero, 0},
			{"1 less 1 of words", vax, '-', vaxOne, vaxOne, "", way, zero, 0},
			{"0 times -1 of words", vax, '*', "0000ffff", vaxMinus, "", way, zero, 0},
			{"0 over -1 of words", vax, '/', zero, vaxMinus, "", way, zero, 0},
			{"root of 0 of words", vax, 'r', "7f000000", "", "", way, zero, 0},
		} {
			l.check(t)
		}
	}
}

func TestF5InfiniteAndNone(t *testing.T) {
	const single, invalid = api.FormatSingle, api.FlagInvalid
	for way := api.RoundEven; way <= api.RoundDown; way++ {
		for _, l := range []line{
			{"none and infinite", single, '+', odd, infinite, "", way, none, 0},
			{"1 less none", single, '-', one, odd, "", way, none, 0},
			{"none times 0", single, '*', odd, zero, "", way, none, 0},
			{"1 over none", single, '/', one, none, "", way, none, 0},
			{"none over 0", single, '/', none, zero, "", way, none, 0},
			{"root of none", single, 'r', odd, "", "", way, none, 0},
			{"0 times infinite, and none", single, 'f', zero, infinite, odd, way, none, 0},
			{"infinite less infinite, fused, with none", single, 'f', none, one, minus, way, none, 0},
			{"infinite and 1", single, '+', infinite, minusOne, "", way, infinite, 0},
			{"1 and minus infinite", single, '+', one, minus, "", way, minus, 0},
			{"infinite and infinite", single, '+', infinite, infinite, "", way, infinite, 0},
			{"infinite and minus infinite", single, '+', infinite, minus, "", way, none, invalid},
			{"infinite less infinite", single, '-', minus, minus, "", way, none, invalid},
			{"infinite less minus infinite", single, '-', infinite, minus, "", way, infinite, 0},
			{"0 less infinite", single, '-', zero, infinite, "", way, minus, 0},
			{"infinite times 0", single, '*', infinite, minusZero, "", way, none, invalid},
			{"0 times infinite", single, '*', zero, minus, "", way, none, invalid},
			{"infinite times -1", single, '*', infinite, minusOne, "", way, minus, 0},
			{"infinite times infinite", single, '*', minus, minus, "", way, infinite, 0},
			{"infinite over infinite", single, '/', minus, infinite, "", way, none, invalid},
			{"infinite over -1", single, '/', infinite, minusOne, "", way, minus, 0},
			{"infinite over 0", single, '/', infinite, minusZero, "", way, minus, 0},
			{"-1 over infinite", single, '/', minusOne, infinite, "", way, minusZero, 0},
			{"0 over infinite", single, '/', zero, infinite, "", way, zero, 0},
			{"0 over 0", single, '/', zero, minusZero, "", way, none, invalid},
			{"1 over 0", single, '/', one, zero, "", way, infinite, api.FlagZero},
			{"1 over -0", single, '/', one, minusZero, "", way, minus, api.FlagZero},
			{"the least over 0", single, '/', tiny, zero, "", way, infinite, api.FlagZero},
			{"infinite times 0, and 1", single, 'f', infinite, zero, one, way, none, invalid},
			{"infinite times 1, less infinite", single, 'f', infinite, one, minus, way, none, invalid},
			{"infinite times -1, less infinite", single, 'f', infinite, minusOne, minus, way, minus, 0},
			{"infinite times 1, and 1", single, 'f', infinite, two, one, way, infinite, 0},
			{"1 times 1, and infinite", single, 'f', one, one, minus, way, minus, 0},
			{"0 times 1, and infinite", single, 'f', zero, one, infinite, way, infinite, 0},
			{"the greatest by itself, less infinite", single, 'f', "7f7fffff", "7f7fffff", minus, way, minus, 0},
			{"root of infinite", single, 'r', infinite, "", "", way, infinite, 0},
			{"root of minus infinite", single, 'r', minus, "", "", way, none, invalid},
			{"root of -1", single, 'r', minusOne, "", "", way, none, invalid},
			{"root of less than 0", single, 'r', "80000001", "", "", way, none, invalid},
			{"the leading digit missing", api.FormatExtended, '+', "00000000000000400040", "00000000000000000000", "", way, "00000000000000c0ff7f", 0},
			{"the leading digit there below the least E", api.FormatExtended, '+', "00000000000000800000", "00000000000000000000", "", way, "00000000000000800100", 0},
		} {
			l.check(t)
		}
	}
}

func TestF6OtherFamilies(t *testing.T) {
	const hexes, vax, invalid = api.FormatHexShort, api.FormatVaxF, api.FlagInvalid
	for way := api.RoundEven; way <= api.RoundDown; way++ {
		for _, l := range []line{
			{"reserved and 1", vax, '+', another, vaxOne, "", way, reserved, invalid},
			{"1 less reserved", vax, '-', vaxOne, reserved, "", way, reserved, invalid},
			{"reserved times 0", vax, '*', reserved, zero, "", way, reserved, invalid},
			{"reserved over 0", vax, '/', another, zero, "", way, reserved, invalid},
			{"0 over reserved", vax, '/', zero, another, "", way, reserved, invalid},
			{"root of reserved", vax, 'r', another, "", "", way, reserved, invalid},
			{"1 times 1, and reserved", vax, 'f', vaxOne, vaxOne, another, way, reserved, invalid},
			{"0 over 0 of words", vax, '/', zero, "7f00ffff", "", way, reserved, invalid},
			{"1 over 0 of words", vax, '/', vaxOne, zero, "", way, reserved, api.FlagZero},
			{"-1 over 0 of words", vax, '/', vaxMinus, "0100ffff", "", way, reserved, api.FlagZero},
			{"root of -1 of words", vax, 'r', vaxMinus, "", "", way, reserved, invalid},
			{"0 over 0 of 16", hexes, '/', zero, minusZero, "", way, zero, invalid},
			{"1 over 0 of 16", hexes, '/', hexOne, "45000000", "", way, "7fffffff", api.FlagZero},
			{"-1 over 0 of 16", hexes, '/', hexMinus, zero, "", way, "ffffffff", api.FlagZero},
			{"1 over -0 of 16", hexes, '/', hexOne, minusZero, "", way, "ffffffff", api.FlagZero},
			{"-1 over -0 of 16", hexes, '/', hexMinus, minusZero, "", way, "7fffffff", api.FlagZero},
			{"1 over 0 of 16, longer", api.FormatHexLong, '/', "4110000000000000", "0000000000000000", "", way, "7fffffffffffffff", api.FlagZero},
			{"root of -1 of 16", hexes, 'r', hexMinus, "", "", way, zero, invalid},
			{"what the grid has not, and 0", hexes, '+', "00010000", zero, "", way, zero, api.FlagUnder + api.FlagInexact},
			{"what the grid has not, times 256", hexes, '*', "00010000", "43100000", "", way, "01100000", 0},
			{"what is not whole, and 0", hexes, '+', "42010000", zero, "", way, hexOne, 0},
		} {
			l.check(t)
		}
	}
}

func TestF7Compare(t *testing.T) {
	for _, c := range []struct {
		format int
		order  []string // each is less than the next
		alike  []string
		no     []string
	}{
		{api.FormatSingle, []string{minus, "ff7fffff", minusOne, "80000001", zero, tiny, one, "3f800001", "7f7fffff", infinite}, []string{zero, minusZero}, []string{none, odd}},
		{api.FormatExtended, []string{"0000000000000080ffff", "fffffffffffffffffeff", "01000000000000000080", "00000000000000000000", "01000000000000000000",
			"ffffffffffffff7f0000", "00000000000000800100", "0000000000000080ff7f"}, []string{"00000000000000800100", "00000000000000800000"},
			[]string{"00000000000000400040", "00000000000000c0ff7f"}},
		{api.FormatHexShort, []string{"ffffffff", hexMinus, "80000001", zero, "00000001", "00100000", hexOne, "7fffffff"}, []string{hexOne, "42010000", "46000001"}, nil},
		{api.FormatHexShort, []string{hexMinus, "c5000000", hexOne}, []string{zero, minusZero, "7f000000", "c1000000"}, nil},
		{api.FormatVaxF, []string{"ffffffff", vaxMinus, "80800000", zero, "80000000", vaxOne, "80400100", "81400000", "ff7fffff"}, []string{zero, "7f00ffff"}, []string{reserved, another}},
	} {
		check := func(a, b string, order int, ok bool) {
			t.Helper()
			if got, is, e := Compare(c.format, bytesOf(t, a), bytesOf(t, b)); got != order || is != ok || e != api.OK {
				t.Errorf("%s and %s of %d: %d %v, error %d, and must be %d %v", a, b, c.format, got, is, e, order, ok)
			}
		}
		for i, a := range c.order {
			for j, b := range c.order {
				check(a, b, map[bool]int{true: 1, false: 0}[i > j]-map[bool]int{true: 1, false: 0}[i < j], true)
			}
			for _, n := range c.no {
				check(a, n, 0, false)
				check(n, a, 0, false)
				check(n, n, 0, false)
			}
		}
		for _, a := range c.alike {
			for _, b := range c.alike {
				check(a, b, 0, true)
			}
		}
	}
}

func same(t *testing.T, what string, s, r string, flags, others int, e, f api.Errno) {
	t.Helper()
	if s != r || flags != others || e != api.OK || f != api.OK {
		t.Fatalf("%s: %x %d, error %d, and %x %d, error %d", what, s, flags, e, r, others, f)
	}
}

func TestF8(t *testing.T) {
	for _, format := range formats {
		f := formOf(t, format)
		d := draw(400 + format)
		size, _ := codec.Size(format)
		unit := f.encode(t, api.Value{Class: api.ClassNumber, Digits: api.Nat{1}})
		list := f.extremes(t)
		for i := range 600 {
			way := 1 + i%5
			a, b := d.bytes(size), f.near(t, &d)
			if i < 200 {
				a = list[d.below(len(list))]
			}
			if i%7 == 0 {
				a, b = f.near(t, &d), a
			}
			s, m, e := Add(format, a, b, way)
			r, n, g := Add(format, b, a, way)
			same(t, "a sum, turned round", s, r, m, n, e, g)
			r, n, g = Fused(format, unit, a, b, way)
			same(t, "Fused with 1", s, r, m, n, e, g)
			r, n, g = Fused(format, a, unit, b, way)
			same(t, "Fused with 1", s, r, m, n, e, g)
			s, m, e = Mul(format, a, b, way)
			r, n, g = Mul(format, b, a, way)
			same(t, "a product, turned round", s, r, m, n, e, g)
			v, _ := codec.Decode(format, a)
			made, bad := codec.Encode(format, v)
			if v.Class != api.ClassNumber || bad != api.OK {
				continue
			}
			s, m, e = Mul(format, a, unit, way)
			same(t, "times 1", s, made, m, 0, e, api.OK)
			s, m, e = Div(format, a, a, way)
			same(t, "over itself", s, unit, m, 0, e, api.OK)
			s, m, e = Sub(format, a, a, way)
			nought := f.encode(t, api.Value{Class: api.ClassZero, Neg: f.family == 'A' && way == api.RoundDown})
			same(t, "less itself", s, nought, m, 0, e, api.OK)
			v.Neg = false
			plain := f.encode(t, v)
			if square, lost, _ := Mul(format, a, a, way); lost == 0 {
				s, m, e = Sqrt(format, square, way)
				same(t, "root of a square", s, plain, m, 0, e, api.OK)
			}
		}
		for n := uint32(1); n < 60; n++ {
			a := f.encode(t, api.Value{Class: api.ClassNumber, Digits: api.Nat{n}, Power: int(n%5) - 2})
			square, lost, _ := Mul(format, a, a, api.RoundEven)
			s, m, e := Sqrt(format, square, 1+int(n%5))
			same(t, "root of a square", s, a, m+lost, 0, e, api.OK)
		}
	}
}

func singleOf(s string) float32 { return math.Float32frombits(binary.BigEndian.Uint32([]byte(s))) }

func doubleOf(s string) float64 { return math.Float64frombits(binary.BigEndian.Uint64([]byte(s))) }

// What the machine has of two formats, to the nearest, comes alike.
func TestF3ToF7AgainstTheMachine(t *testing.T) {
	check := func(what string, format int, s string, x float64, list ...string) {
		t.Helper()
		y := 0.0
		if format == api.FormatSingle {
			y = float64(singleOf(s))
		} else {
			y = doubleOf(s)
		}
		if math.IsNaN(x) && math.IsNaN(y) || x == y && math.Signbit(x) == math.Signbit(y) {
			return
		}
		t.Fatalf("%s of %x: %v, and must be %v", what, list, y, x)
	}
	single, double := formOf(t, api.FormatSingle), formOf(t, api.FormatDouble)
	d := draw(500)
	pick := func(f form, list []string) string {
		switch d.below(3) {
		case 0:
			return list[d.below(len(list))]
		case 1:
			return f.near(t, &d)
		}
		return d.bytes(len(list[0]))
	}
	singles, doubles := single.extremes(t), double.extremes(t)
	const way = api.RoundEven
	for range 20000 {
		a, b := pick(single, singles), pick(single, singles)
		x, y := singleOf(a), singleOf(b)
		s, _, _ := Add(single.format, a, b, way)
		check("Add", single.format, s, float64(x+y), a, b)
		s, _, _ = Sub(single.format, a, b, way)
		check("Sub", single.format, s, float64(x-y), a, b)
		s, _, _ = Mul(single.format, a, b, way)
		check("Mul", single.format, s, float64(x*y), a, b)
		s, _, _ = Div(single.format, a, b, way)
		check("Div", single.format, s, float64(x/y), a, b)
		s, _, _ = Sqrt(single.format, a, way)
		check("Sqrt", single.format, s, float64(float32(math.Sqrt(float64(x)))), a)
	}
	for range 20000 {
		a, b, c := pick(double, doubles), pick(double, doubles), pick(double, doubles)
		x, y, z := doubleOf(a), doubleOf(b), doubleOf(c)
		s, _, _ := Add(double.format, a, b, way)
		check("Add", double.format, s, x+y, a, b)
		s, _, _ = Sub(double.format, a, b, way)
		check("Sub", double.format, s, x-y, a, b)
		s, _, _ = Mul(double.format, a, b, way)
		check("Mul", double.format, s, x*y, a, b)
		s, _, _ = Div(double.format, a, b, way)
		check("Div", double.format, s, x/y, a, b)
		s, _, _ = Sqrt(double.format, a, way)
		check("Sqrt", double.format, s, math.Sqrt(x), a)
		s, _, _ = Fused(double.format, a, b, c, way)
		check("Fused", double.format, s, math.FMA(x, y, z), a, b, c)
		order, ok, _ := Compare(double.format, a, b)
		if ok != !(math.IsNaN(x) || math.IsNaN(y)) || ok && (order < 0) != (x < y) || ok && (order == 0) != (x == y) {
			t.Fatalf("Compare of %x and %x: %d %v", a, b, order, ok)
		}
	}
}

// Products and sums whose parts are as far apart as they can be.
func TestF3FusedFarApart(t *testing.T) {
	const most, least, tinyOne, minusTiny = "fffffffffffffffffe7f", "00000000000000800100", "01000000000000000000", "01000000000000000080"
	const inf, minusInf, over, under = "0000000000000080ff7f", "0000000000000080ffff", api.FlagOver + api.FlagInexact, api.FlagUnder + api.FlagInexact
	const unit, unitLess, unitMore = "0000000000000080ff3f", "fffffffffffffffffe3f", "0100000000000080ff3f"
	const format = api.FormatExtended
	for _, l := range []line{
		{"the greatest by itself, and the least", format, 'f', most, most, tinyOne, api.RoundEven, inf, over},
		{"the greatest by itself, less the least, to 0", format, 'f', most, most, minusTiny, api.RoundZero, most, over},
		{"the least by itself, and the greatest", format, 'f', tinyOne, tinyOne, most, api.RoundEven, most, api.FlagInexact},
		{"the least by itself, and the greatest, up", format, 'f', tinyOne, tinyOne, most, api.RoundUp, inf, over},
		{"the least by itself from the greatest, down", format, 'f', minusTiny, tinyOne, most, api.RoundDown, "fefffffffffffffffe7f", api.FlagInexact},
		{"the least by itself, and 1, up", format, 'f', tinyOne, tinyOne, unit, api.RoundUp, unitMore, api.FlagInexact},
		{"the least by itself from 1, down", format, 'f', tinyOne, minusTiny, unit, api.RoundDown, unitLess, api.FlagInexact},
		{"the least by itself from 1, nearest", format, 'f', tinyOne, minusTiny, unit, api.RoundEven, unit, api.FlagInexact},
		{"the least by itself, and itself", format, 'f', tinyOne, tinyOne, tinyOne, api.RoundUp, "02000000000000000000", under},
		{"the least by itself, from itself", format, 'f', tinyOne, minusTiny, tinyOne, api.RoundZero, "00000000000000000000", under},
		{"twice the greatest, less the greatest", format, 'f', most, "00000000000000800040", "fffffffffffffffffeff", api.RoundEven, most, 0},
		{"the least by itself", format, '*', tinyOne, minusTiny, "", api.RoundDown, minusTiny, under},
		{"the greatest over the least", format, '/', most, minusTiny, "", api.RoundEven, minusInf, over},
		{"the least over the greatest", format, '/', tinyOne, most, "", api.RoundUp, tinyOne, under},
		{"the least with all digits over the greatest", format, '/', least, most, "", api.RoundZero, "00000000000000000000", under},
	} {
		l.check(t)
	}
}

func TestP1WhateverIsHandedIn(t *testing.T) {
	texts := []string{"", "\x00", "1234", "\xff\xff\xff\xff", "12345678", "\xff\xff\xff\xff\xff\xff\xff\xff", "1234567890", strings.Repeat("\x00", 10), strings.Repeat("x", 100)}
	check := func(s string, flags int, e api.Errno) {
		t.Helper()
		if (s == "") != (e != api.OK) || e != api.OK && flags != 0 || flags < 0 || flags > 31 {
			t.Fatalf("%x %d beside error %d", s, flags, e)
		}
	}
	for format := -1; format <= 10; format++ {
		for way := -1; way <= 7; way++ {
			for _, a := range texts {
				check(Sqrt(format, a, way))
				for _, b := range texts {
					check(Add(format, a, b, way))
					check(Sub(format, a, b, way))
					check(Mul(format, a, b, way))
					check(Div(format, a, b, way))
					check(Fused(format, a, b, a, way))
					if order, ok, e := Compare(format, a, b); (!ok || e != api.OK) && order != 0 || ok && e != api.OK {
						t.Fatalf("%d %v beside error %d", order, ok, e)
					}
				}
			}
			for _, n := range []api.Nat{nil, {}, {0}, {3}, {1, 0}, slices.Repeat(api.Nat{math.MaxUint32}, 1200), slices.Repeat(api.Nat{1}, 1201)} {
				for _, exp := range []int{math.MinInt, -20000, 0, 20000, math.MaxInt} {
					check(Fit(format, api.Ratio{Neg: exp < 0, Num: n, Den: api.Nat{7}, Exp: exp}, way))
					check(Fit(format, api.Ratio{Num: api.Nat{7}, Den: n, Exp: exp}, way))
				}
			}
		}
	}
}

func TestP2AndP3Memory(t *testing.T) {
	roomy := func() api.Nat { return append(api.Nat{5, 6, 7}, 77, 78) }
	for _, format := range formats {
		for way := api.RoundEven; way <= api.RoundDown; way++ {
			num, den := roomy(), roomy()
			q := api.Ratio{Num: num[:3], Den: den[:2], Exp: -40}
			first, flags, e := Fit(format, q, way)
			if !slices.Equal(num, roomy()) || !slices.Equal(den, roomy()) {
				t.Fatal("Fit changed what it was handed")
			}
			again, others, f := Fit(format, q, way)
			same(t, "the same ratio", first, again, flags, others, e, f)
			f1 := formOf(t, format)
			for _, a := range f1.extremes(t) {
				s, m, e := Fused(format, a, a, a, way)
				r, n, g := Fused(format, a, a, a, way)
				same(t, "the same patterns", s, r, m, n, e, g)
			}
		}
	}
}
