package codec

import (
	"encoding/hex"
	"fmt"
	"math"
	"math/big"
	"slices"
	"strings"
	"testing"

	"slipstick/api"
)

// draw: numbers for long tests; the same each time.
type draw uint64

func (d *draw) below(n int) int {
	*d = *d*6364136223846793005 + 1442695040888963407
	return int(uint64(*d) >> 33 % uint64(n))
}

// form is a line of E1's table, with how many bits E and F have (E2).
type form struct {
	format, size, radix, digits, least, greatest int
	gradual                                      bool
	exponent, fraction                           int
}

func forms() []form {
	return []form{
		{api.FormatSingle, 4, 2, 24, -149, 104, true, 8, 23},
		{api.FormatDouble, 8, 2, 53, -1074, 971, true, 11, 52},
		{api.FormatExtended, 10, 2, 64, -16445, 16320, true, 15, 64},
		{api.FormatHexShort, 4, 16, 6, -70, 57, false, 7, 24},
		{api.FormatHexLong, 8, 16, 14, -78, 49, false, 7, 56},
		{api.FormatVaxF, 4, 2, 24, -151, 103, false, 8, 23},
		{api.FormatVaxD, 8, 2, 56, -183, 71, false, 8, 55},
		{api.FormatVaxG, 8, 2, 53, -1076, 970, false, 11, 52},
	}
}

var wrongFormats = []int{math.MinInt, -1, 0, 9, 10, math.MaxInt}

// bytesOf a text to the base of 16.
func bytesOf(t *testing.T, text string) string {
	t.Helper()
	b, err := hex.DecodeString(text)
	if err != nil {
		t.Fatal(err)
	}
	return string(b)
}

// lie: bytes with the greatest first, as they lie in a pattern (and back).
func (f form) lie(s string) string {
	b := []byte(s)
	switch f.format {
	case api.FormatExtended:
		slices.Reverse(b)
	case api.FormatVaxF, api.FormatVaxD, api.FormatVaxG:
		for i := 0; i < len(b); i += 2 {
			slices.Reverse(b[i : i+2])
		}
	}
	return string(b)
}

// pattern with a sign, an E and an F.
func (f form) pattern(neg bool, exponent int, fraction *big.Int) string {
	n := new(big.Int).Lsh(big.NewInt(int64(exponent)), uint(f.fraction))
	n.Or(n, fraction)
	if neg {
		n.SetBit(n, 8*f.size-1, 1)
	}
	return f.lie(string(n.FillBytes(make([]byte, f.size))))
}

// split a pattern into its sign, E and F.
func (f form) split(s string) (bool, int, *big.Int) {
	n := new(big.Int).SetBytes([]byte(f.lie(s)))
	fraction := new(big.Int).And(n, new(big.Int).Sub(power(2, f.fraction), big.NewInt(1)))
	exponent := new(big.Int).Rsh(n, uint(f.fraction))
	return n.Bit(8*f.size-1) == 1, int(exponent.SetBit(exponent, f.exponent, 0).Int64()), fraction
}

func power(radix, n int) *big.Int {
	return new(big.Int).Exp(big.NewInt(int64(radix)), big.NewInt(int64(n)), nil)
}

func (f form) ones() int { return 1<<f.exponent - 1 }

// told is what E2 says, word for word: the class, and (of a number) D and its power.
func (f form) told(s string) (class int, d *big.Int, at int) {
	neg, e, d := f.split(s)
	none := d.Sign() == 0
	switch f.format {
	case api.FormatSingle, api.FormatDouble:
		switch {
		case e == f.ones() && none:
			return api.ClassInfinite, nil, 0
		case e == f.ones():
			return api.ClassNone, nil, 0
		case e == 0 && none:
			return api.ClassZero, nil, 0
		case e == 0:
			return api.ClassNumber, d, f.least
		}
		return api.ClassNumber, d.Add(d, power(2, f.fraction)), e - 1 + f.least
	case api.FormatExtended:
		j := d.Bit(63) == 1
		switch {
		case e == f.ones() && d.Cmp(power(2, 63)) == 0:
			return api.ClassInfinite, nil, 0
		case e == f.ones():
			return api.ClassNone, nil, 0
		case e == 0 && none:
			return api.ClassZero, nil, 0
		case e == 0:
			return api.ClassNumber, d, f.least
		case j:
			return api.ClassNumber, d, e - 1 + f.least
		}
		return api.ClassNone, nil, 0
	case api.FormatHexShort, api.FormatHexLong:
		if none {
			return api.ClassZero, nil, 0
		}
		return api.ClassNumber, d, e + f.least
	}
	switch {
	case e == 0 && neg:
		return api.ClassReserved, nil, 0
	case e == 0:
		return api.ClassZero, nil, 0
	}
	return api.ClassNumber, d.Add(d, power(2, f.fraction)), e - 1 + f.least
}

// some patterns of a format: all sorts of E with all sorts of F, and others that are drawn.
func (f form) some() []string {
	one := big.NewInt(1)
	all := new(big.Int).Sub(power(2, f.fraction), one)
	top := power(2, f.fraction-1)
	fractions := []*big.Int{new(big.Int), one, big.NewInt(0x1230), all, top, new(big.Int).Sub(top, one), new(big.Int).Add(top, one),
		new(big.Int).Rsh(top, 1), new(big.Int).Sub(all, one), new(big.Int).Rsh(all, 4), new(big.Int).Rsh(top, 3), new(big.Int).Rsh(top, 4),
		new(big.Int).Or(top, new(big.Int).Rsh(top, 1))}
	d := draw(f.format)
	for range 12 {
		x := new(big.Int)
		for range 3 {
			x.Or(x.Lsh(x, 31), big.NewInt(int64(d.below(1<<31))))
		}
		x.And(x, all)
		fractions = append(fractions, x, new(big.Int).Rsh(x, uint(d.below(f.fraction))))
	}
	exponents := []int{0, 1, 2, 3, f.ones() / 2, f.ones()/2 + 1, f.ones() - 2, f.ones() - 1, f.ones()}
	for range 6 {
		exponents = append(exponents, d.below(f.ones()+1))
	}
	var list []string
	for _, e := range exponents {
		for _, x := range fractions {
			list = append(list, f.pattern(false, e, x), f.pattern(true, e, x))
		}
	}
	return list
}

func toBig(a api.Nat) *big.Int {
	n := new(big.Int)
	for i := len(a) - 1; i >= 0; i-- {
		n.Or(n.Lsh(n, 32), big.NewInt(int64(a[i])))
	}
	return n
}

func toNat(n *big.Int) api.Nat {
	var a api.Nat
	for n = new(big.Int).Set(n); n.Sign() > 0; n.Rsh(n, 32) {
		a = append(a, uint32(new(big.Int).And(n, big.NewInt(math.MaxUint32)).Uint64()))
	}
	return a
}

func sameValue(a, b api.Value) bool {
	return a.Class == b.Class && a.Neg == b.Neg && slices.Equal(a.Digits, b.Digits) && a.Power == b.Power
}

// sameNumber tells whether v is d times the radix to the power of at.
func (f form) sameNumber(v api.Value, d *big.Int, at int) bool {
	least := min(v.Power, at)
	x := new(big.Int).Mul(toBig(v.Digits), power(f.radix, v.Power-least))
	return x.Cmp(new(big.Int).Mul(d, power(f.radix, at-least))) == 0
}

// held: has the grid d times the radix to the power of at?
func (f form) held(d *big.Int, at int) bool {
	d, rest, radix := new(big.Int).Set(d), new(big.Int), big.NewInt(int64(f.radix))
	for rest.Rem(d, radix).Sign() == 0 {
		d.Quo(d, radix)
		at++
	}
	whole := at - f.digits + len(d.Text(f.radix))
	return at >= whole && whole <= f.greatest && (whole >= f.least || f.gradual && at >= f.least)
}

func TestE1(t *testing.T) {
	for _, f := range forms() {
		if n, e := Size(f.format); n != f.size || e != api.OK {
			t.Errorf("Size of %d: %d, error %d", f.format, n, e)
		}
		want := api.Grid{Radix: f.radix, Digits: f.digits, Least: f.least, Greatest: f.greatest, Gradual: f.gradual}
		if g, e := Grid(f.format); g != want || e != api.OK {
			t.Errorf("Grid of %d: %v, error %d", f.format, g, e)
		}
	}
	for _, format := range wrongFormats {
		if n, e := Size(format); n != 0 || e != api.ErrKind {
			t.Errorf("Size of %d: %d, error %d", format, n, e)
		}
		if g, e := Grid(format); g != (api.Grid{}) || e != api.ErrKind {
			t.Errorf("Grid of %d: %v, error %d", format, g, e)
		}
	}
}

func number(neg bool, at int, digits ...uint32) api.Value {
	return api.Value{Class: api.ClassNumber, Neg: neg, Digits: digits, Power: at}
}

func TestE2Examples(t *testing.T) {
	zero, minus := api.Value{Class: api.ClassZero}, api.Value{Class: api.ClassZero, Neg: true}
	infinite, none := api.Value{Class: api.ClassInfinite}, api.Value{Class: api.ClassNone}
	reserved := api.Value{Class: api.ClassReserved}
	for _, c := range []struct {
		format int
		text   string
		want   api.Value
	}{
		{api.FormatSingle, "40400000", number(false, 0, 3)},
		{api.FormatSingle, "bf800000", number(true, 0, 1)},
		{api.FormatSingle, "00000001", number(false, -149, 1)},
		{api.FormatSingle, "007fffff", number(false, -149, 1<<23-1)},
		{api.FormatSingle, "00800000", number(false, -126, 1)},
		{api.FormatSingle, "7f7fffff", number(false, 104, 1<<24-1)},
		{api.FormatSingle, "7f800000", infinite},
		{api.FormatSingle, "ff800000", api.Value{Class: api.ClassInfinite, Neg: true}},
		{api.FormatSingle, "ff800001", none},
		{api.FormatSingle, "80000000", minus},
		{api.FormatDouble, "3ff0000000000001", number(false, -52, 1, 1<<20)},
		{api.FormatDouble, "8000000000000001", number(true, -1074, 1)},
		{api.FormatDouble, "7ff0000000000000", infinite},
		{api.FormatDouble, "7ff0000000000001", none},
		{api.FormatExtended, "00000000000000c00040", number(false, 0, 3)},
		{api.FormatExtended, "0100000000000080ff3f", number(false, -63, 1, 1<<31)},
		{api.FormatExtended, "00000000000000800000", number(false, -16382, 1)}, // the leading digit is there below the least E
		{api.FormatExtended, "00000000000000800100", number(false, -16382, 1)},
		{api.FormatExtended, "ffffffffffffffff0080", number(true, -16445, math.MaxUint32, math.MaxUint32)},
		{api.FormatExtended, "00000000000000400100", none}, // the leading digit is missing
		{api.FormatExtended, "00000000000000000040", none},
		{api.FormatExtended, "ffffffffffffff7ffeff", none},
		{api.FormatExtended, "0000000000000080ff7f", infinite},
		{api.FormatExtended, "0000000000000000ff7f", none},
		{api.FormatExtended, "0100000000000080ff7f", none},
		{api.FormatHexShort, "41300000", number(false, 0, 3)},
		{api.FormatHexShort, "c2640000", number(true, 0, 100)},
		{api.FormatHexShort, "46000010", number(false, 1, 1)}, // not whole
		{api.FormatHexShort, "00000001", number(false, -70, 1)},
		{api.FormatHexShort, "7fffffff", number(false, 57, 1<<24-1)},
		{api.FormatHexShort, "7f000000", zero},
		{api.FormatHexShort, "c1000000", minus},
		{api.FormatHexLong, "4110000000000001", number(false, -13, 1, 1<<20)},
		{api.FormatHexLong, "80000000000000ff", number(true, -78, 255)},
		{api.FormatVaxF, "80400000", number(false, 0, 1)},
		{api.FormatVaxF, "404100c0", number(false, -8, 3<<8+3)},
		{api.FormatVaxF, "80000100", number(false, -151, 1<<23+1)},
		{api.FormatVaxF, "7f00ffff", zero},
		{api.FormatVaxF, "00800000", reserved},
		{api.FormatVaxF, "7f80ffff", reserved},
		{api.FormatVaxF, "ffffffff", number(true, 103, 1<<24-1)},
		{api.FormatVaxD, "8040000000000100", number(false, -55, 1, 1<<23)},
		{api.FormatVaxG, "1040000000000100", number(false, -52, 1, 1<<20)},
		{api.FormatVaxG, "0f00ffffffffffff", zero},
		{api.FormatVaxG, "0f80000000000000", reserved},
	} {
		if v, e := Decode(c.format, bytesOf(t, c.text)); e != api.OK || !sameValue(v, c.want) {
			t.Errorf("%s of %d: %v, error %d, and must be %v", c.text, c.format, v, e, c.want)
		}
	}
}

func TestE2AndE3AllSorts(t *testing.T) {
	for _, f := range forms() {
		for _, s := range f.some() {
			class, d, at := f.told(s)
			sign, _, _ := f.split(s)
			if c, neg, e := Class(f.format, s); c != class || neg != sign || e != api.OK {
				t.Fatalf("Class of %x of %d: %d %v, error %d, and must be %d %v", s, f.format, c, neg, e, class, sign)
			}
			v, e := Decode(f.format, s)
			if e != api.OK || v.Class != class {
				t.Fatalf("%x of %d: %v, error %d, and must be of class %d", s, f.format, v, e, class)
			}
			switch class {
			case api.ClassNumber:
				bare := new(big.Int).Rem(toBig(v.Digits), big.NewInt(int64(f.radix))).Sign() != 0
				if v.Neg != sign || !bare || !f.sameNumber(v, d, at) {
					t.Fatalf("%x of %d: %v, and must be %v by %d", s, f.format, v, d, at)
				}
			case api.ClassZero, api.ClassInfinite:
				if !sameValue(v, api.Value{Class: class, Neg: sign}) {
					t.Fatalf("%x of %d: %v", s, f.format, v)
				}
			default:
				if !sameValue(v, api.Value{Class: class}) {
					t.Fatalf("%x of %d: %v", s, f.format, v)
				}
			}
		}
	}
}

// What the machine has of two formats is told alike.
func TestE2AgainstTheMachine(t *testing.T) {
	for _, f := range forms()[:2] {
		for _, s := range f.some() {
			bits := new(big.Int).SetBytes([]byte(s)).Uint64()
			x := math.Float64frombits(bits)
			if f.format == api.FormatSingle {
				x = float64(math.Float32frombits(uint32(bits)))
			}
			v, _ := Decode(f.format, s)
			switch v.Class {
			case api.ClassNone:
				if !math.IsNaN(x) {
					t.Fatalf("%x is %v", s, x)
				}
			case api.ClassInfinite:
				if !math.IsInf(x, 0) || math.Signbit(x) != v.Neg {
					t.Fatalf("%x is %v", s, x)
				}
			default:
				y := math.Ldexp(float64(toBig(v.Digits).Uint64()), v.Power)
				if y != math.Abs(x) || math.Signbit(x) != v.Neg {
					t.Fatalf("%x is %v, and not %v", s, x, y)
				}
			}
		}
	}
}

func TestE3Errors(t *testing.T) {
	check := func(format int, s string, want api.Errno) {
		t.Helper()
		if v, e := Decode(format, s); e != want || !sameValue(v, api.Value{}) {
			t.Errorf("Decode of %d bytes of %d: %v, error %d, and must be %d", len(s), format, v, e, want)
		}
		if c, neg, e := Class(format, s); e != want || c != 0 || neg {
			t.Errorf("Class of %d bytes of %d: %d %v, error %d, and must be %d", len(s), format, c, neg, e, want)
		}
		for _, up := range []bool{false, true} {
			if n, e := Next(format, s, up); e != want || n != "" {
				t.Errorf("Next of %d bytes of %d: %x, error %d, and must be %d", len(s), format, n, e, want)
			}
		}
	}
	for n := range 20 {
		s := strings.Repeat("\xff", n)
		for _, f := range forms() {
			if n != f.size {
				check(f.format, s, api.ErrForm)
			}
		}
		for _, format := range wrongFormats {
			check(format, s, api.ErrKind)
		}
	}
}

func encoded(t *testing.T, format int, v api.Value, want string) {
	t.Helper()
	if s, e := Encode(format, v); e != api.OK || s != bytesOf(t, want) {
		t.Errorf("%v of %d: %x, error %d, and must be %s", v, format, s, e, want)
	}
}

func TestE4WhatIsNoNumber(t *testing.T) {
	for format, want := range map[int][6]string{
		// 0, 0 with a sign, infinite, with a sign, no number, reserved: or nothing.
		api.FormatSingle:   {"00000000", "80000000", "7f800000", "ff800000", "7fc00000", ""},
		api.FormatDouble:   {"0000000000000000", "8000000000000000", "7ff0000000000000", "fff0000000000000", "7ff8000000000000", ""},
		api.FormatExtended: {"00000000000000000000", "00000000000000000080", "0000000000000080ff7f", "0000000000000080ffff", "00000000000000c0ff7f", ""},
		api.FormatHexShort: {"00000000", "80000000", "", "", "", ""},
		api.FormatHexLong:  {"0000000000000000", "8000000000000000", "", "", "", ""},
		api.FormatVaxF:     {"00000000", "", "", "", "", "00800000"},
		api.FormatVaxD:     {"0000000000000000", "", "", "", "", "0080000000000000"},
		api.FormatVaxG:     {"0000000000000000", "", "", "", "", "0080000000000000"},
	} {
		for i, v := range []api.Value{{Class: api.ClassZero}, {Class: api.ClassZero, Neg: true}, {Class: api.ClassInfinite},
			{Class: api.ClassInfinite, Neg: true}, {Class: api.ClassNone}, {Class: api.ClassReserved}} {
			if want[i] != "" {
				encoded(t, format, v, want[i])
				continue
			}
			wrong := api.ErrNone
			if i == 1 {
				wrong = api.ErrState
			}
			if s, e := Encode(format, v); s != "" || e != wrong {
				t.Errorf("%v of %d: %x, error %d, and must be %d", v, format, s, e, wrong)
			}
		}
	}
}

func TestE4Numbers(t *testing.T) {
	far := toNat(power(16, 9000))
	for _, c := range []struct {
		format int
		v      api.Value
		want   string
	}{
		{api.FormatSingle, number(false, 0, 3), "40400000"},
		{api.FormatSingle, number(true, -1, 6), "c0400000"},
		{api.FormatSingle, number(false, -64, 0, 0, 3), "40400000"},
		{api.FormatSingle, number(false, -151, 4), "00000001"},
		{api.FormatSingle, number(false, -149, 1<<23), "00800000"},
		{api.FormatSingle, number(false, -149, 1<<23-1), "007fffff"},
		{api.FormatSingle, number(false, 104, 1<<24-1), "7f7fffff"},
		{api.FormatDouble, number(true, -1074, 1), "8000000000000001"},
		{api.FormatDouble, number(false, 971, math.MaxUint32, 1<<21-1), "7fefffffffffffff"},
		{api.FormatExtended, number(false, -16382, 1), "00000000000000800100"},
		{api.FormatExtended, number(true, -16445, math.MaxUint32, 1<<31-1), "ffffffffffffff7f0080"},
		{api.FormatExtended, number(false, 16320, math.MaxUint32, math.MaxUint32), "fffffffffffffffffe7f"},
		{api.FormatExtended, number(false, -16445, 1), "01000000000000000000"},
		{api.FormatHexShort, number(false, -1, 8), "40800000"},
		{api.FormatHexShort, number(true, 0, 16), "c2100000"},
		{api.FormatHexShort, number(false, -70, 1<<20), "00100000"},
		{api.FormatHexShort, number(false, -65, 1), "00100000"},
		{api.FormatHexShort, number(false, 62, 15), "7ff00000"},
		{api.FormatHexLong, number(false, 0, math.MaxUint32, 1<<24-1), "4effffffffffffff"},
		{api.FormatHexLong, api.Value{Class: api.ClassNumber, Digits: far, Power: -9000}, "4110000000000000"},
		{api.FormatHexLong, api.Value{Class: api.ClassNumber, Neg: true, Digits: far, Power: -8999}, "c210000000000000"},
		{api.FormatVaxF, number(false, 0, 3), "40410000"},
		{api.FormatVaxF, number(true, -151, 1<<23), "80800000"},
		{api.FormatVaxD, number(false, 71, math.MaxUint32, 1<<24-1), "ff7fffffffffffff"},
		{api.FormatVaxG, number(false, -1024, 1), "1000000000000000"},
	} {
		encoded(t, c.format, c.v, c.want)
	}
}

func TestE4NotInTheGrid(t *testing.T) {
	for _, f := range forms() {
		most := new(big.Int).Sub(power(f.radix, f.digits), big.NewInt(1))
		long := new(big.Int).Add(power(f.radix, f.digits), big.NewInt(1))
		half := new(big.Int).Sub(power(f.radix, f.digits), big.NewInt(int64(f.radix/2)))
		list := []api.Value{
			{Digits: toNat(power(f.radix, f.digits)), Power: f.greatest},
			{Digits: toNat(most), Power: f.greatest + 1},
			{Digits: toNat(most), Power: f.least - 1},
			{Digits: toNat(long), Power: 0},
			{Digits: toNat(long), Power: f.least},
			{Digits: toNat(half), Power: f.least - 1},
			{Digits: api.Nat{1}, Power: f.greatest + f.digits},
			{Digits: api.Nat{1}, Power: f.least - 1},
			{Digits: api.Nat{1}, Power: 20000},
			{Digits: api.Nat{1}, Power: -20000},
			{Digits: slices.Repeat(api.Nat{math.MaxUint32}, api.MaxDigits), Power: 20000},
			{Digits: slices.Repeat(api.Nat{math.MaxUint32}, api.MaxDigits), Power: -20000},
		}
		if !f.gradual {
			list = append(list, api.Value{Digits: api.Nat{1}, Power: f.least}, api.Value{Digits: toNat(power(f.radix, f.digits-2)), Power: f.least})
		}
		for _, v := range list {
			v.Class = api.ClassNumber
			for _, v.Neg = range []bool{false, true} {
				if s, e := Encode(f.format, v); s != "" || e != api.ErrState {
					t.Errorf("%v of %d: %x, error %d, and must be %d", v, f.format, s, e, api.ErrState)
				}
			}
		}
	}
}

// Each of these has what is told behind it wrong, too.
func TestE4Errors(t *testing.T) {
	form, many := api.Nat{1, 0}, slices.Repeat(api.Nat{1}, api.MaxDigits+1)
	check := func(format int, v api.Value, want api.Errno) {
		t.Helper()
		if s, e := Encode(format, v); s != "" || e != want {
			t.Errorf("%v of %d: %x, error %d, and must be %d", v, format, s, e, want)
		}
	}
	for _, format := range wrongFormats {
		check(format, api.Value{Class: 9, Digits: form}, api.ErrKind)
		check(format, api.Value{Class: api.ClassZero}, api.ErrKind)
		check(format, api.Value{Class: api.ClassNumber, Digits: many, Power: 20001}, api.ErrKind)
	}
	for _, f := range forms() {
		for _, class := range []int{math.MinInt, -1, 0, 6, math.MaxInt} {
			check(f.format, api.Value{Class: class, Digits: form, Power: 20001}, api.ErrKind)
		}
		for class := api.ClassZero; class <= api.ClassReserved; class++ {
			check(f.format, api.Value{Class: class, Neg: true, Digits: form, Power: 20001}, api.ErrForm)
			check(f.format, api.Value{Class: class, Neg: true, Digits: many, Power: 20001}, api.ErrMany)
		}
		for _, at := range []int{math.MinInt, -20001, 20001, math.MaxInt} {
			check(f.format, api.Value{Class: api.ClassNumber, Power: at}, api.ErrRange)
			check(f.format, api.Value{Class: api.ClassNumber, Neg: true, Digits: api.Nat{1}, Power: at}, api.ErrRange)
		}
		check(f.format, api.Value{Class: api.ClassNumber}, api.ErrState)
		check(f.format, api.Value{Class: api.ClassNumber, Neg: true, Power: 20000}, api.ErrState)
		for class := api.ClassZero; class <= api.ClassReserved; class++ {
			if class == api.ClassNumber {
				continue
			}
			want := api.ErrState
			if f.format <= api.FormatExtended && class == api.ClassReserved || f.format >= api.FormatHexShort && class != api.ClassZero &&
				!(f.format >= api.FormatVaxF && class == api.ClassReserved) {
				want = api.ErrNone
			}
			check(f.format, api.Value{Class: class, Digits: api.Nat{1}}, want)
			check(f.format, api.Value{Class: class, Power: 1}, want)
			check(f.format, api.Value{Class: class, Power: math.MinInt}, want)
			if class == api.ClassNone || class == api.ClassReserved {
				check(f.format, api.Value{Class: class, Neg: true}, want)
			}
		}
	}
}

// after is the pattern of the next number away from 0, of one that Encode made; "": there is none.
func (f form) after(s string) string {
	neg, e, fraction := f.split(s)
	lead := power(f.radix, f.digits-1)
	most := new(big.Int).Sub(power(2, f.fraction), big.NewInt(1))
	last := f.ones()
	if f.format <= api.FormatExtended {
		last--
	}
	switch {
	case fraction.Cmp(most) == 0 && e == last:
		return ""
	case fraction.Cmp(most) != 0 && (f.gradual || f.radix == 16 && fraction.Sign() > 0 || f.radix == 2 && e > 0):
		fraction.Add(fraction, big.NewInt(1))
		if f.format == api.FormatExtended && e == 0 && fraction.Cmp(lead) == 0 {
			e = 1
		}
		return f.pattern(neg, e, fraction)
	case f.radix == 16 && fraction.Sign() == 0:
		return f.pattern(neg, 0, lead)
	case f.radix == 16 || f.format == api.FormatExtended:
		return f.pattern(neg, e+1, lead)
	}
	return f.pattern(neg, e+1, new(big.Int))
}

func TestE5Next(t *testing.T) {
	check := func(f form, s string, up bool, want string) {
		t.Helper()
		wanted := api.OK
		if want == "" {
			wanted = api.ErrNone
		}
		if n, e := Next(f.format, s, up); n != want || e != wanted {
			t.Fatalf("next to %x of %d, up %v: %x, error %d, and must be %x", s, f.format, up, n, e, want)
		}
	}
	for _, f := range forms() {
		zero := strings.Repeat("\x00", f.size)
		for _, s := range f.some() {
			class, d, at := f.told(s)
			neg, _, _ := f.split(s)
			switch {
			case class == api.ClassZero:
				check(f, s, true, f.after(zero))
				least := []byte(f.lie(f.after(zero)))
				least[0] |= 0x80
				check(f, s, false, f.lie(string(least)))
				check(f, f.after(zero), false, zero)
				check(f, f.lie(string(least)), true, zero)
			case class == api.ClassNumber && f.held(d, at):
				v, _ := Decode(f.format, s)
				made, _ := Encode(f.format, v)
				next := f.after(made)
				check(f, s, !neg, next)
				if next != "" {
					check(f, next, neg, made)
				}
			default:
				for _, up := range []bool{false, true} {
					if n, e := Next(f.format, s, up); n != "" || e != api.ErrState {
						t.Fatalf("next to %x of %d: %x, error %d", s, f.format, n, e)
					}
				}
			}
		}
	}
}

func TestE5Edges(t *testing.T) {
	for _, c := range []struct {
		what       string
		format     int
		text, want string
		up         bool
		e          api.Errno
	}{
		{"the least with its leading digit, down", api.FormatSingle, "00800000", "007fffff", false, api.OK},
		{"up to it", api.FormatExtended, "ffffffffffffff7f0000", "00000000000000800100", true, api.OK},
		{"down from what has it below the least E", api.FormatExtended, "00000000000000800000", "ffffffffffffff7f0000", false, api.OK},
		{"to 0 from below", api.FormatDouble, "8000000000000001", "0000000000000000", true, api.OK},
		{"from 0 with a sign, up", api.FormatDouble, "8000000000000000", "0000000000000001", true, api.OK},
		{"above the greatest", api.FormatSingle, "7f7fffff", "", true, api.ErrNone},
		{"below the least of all", api.FormatSingle, "ff7fffff", "", false, api.ErrNone},
		{"below what is infinite", api.FormatSingle, "7f800000", "", false, api.ErrState},
		{"from no number", api.FormatDouble, "7ff8000000000000", "", true, api.ErrState},
		{"with the leading digit missing", api.FormatExtended, "00000000000000400040", "", true, api.ErrState},
		{"a power of 16 less", api.FormatHexShort, "41100000", "40ffffff", false, api.OK},
		{"not whole", api.FormatHexShort, "41010000", "40100001", true, api.OK},
		{"not whole, and not in the grid", api.FormatHexShort, "00010000", "", true, api.ErrState},
		{"not whole, and not in the grid, either way", api.FormatHexLong, "0000000000000001", "", false, api.ErrState},
		{"0 of any E", api.FormatHexShort, "c5000000", "80100000", false, api.OK},
		{"to 0 without fewer digits", api.FormatHexShort, "80100000", "00000000", true, api.OK},
		{"to 0 of words", api.FormatVaxF, "80000000", "00000000", false, api.OK},
		{"from 0 of any F", api.FormatVaxF, "7f00ffff", "80800000", false, api.OK},
		{"reserved", api.FormatVaxG, "0080000000000000", "", true, api.ErrState},
		{"above the greatest of words", api.FormatVaxD, "ff7fffffffffffff", "", true, api.ErrNone},
		{"carried from word to word", api.FormatVaxD, "80400000ffffffff", "8040010000000000", true, api.OK},
	} {
		if s, e := Next(c.format, bytesOf(t, c.text), c.up); e != c.e || s != bytesOf(t, c.want) {
			t.Errorf("%s: %x, error %d, and must be %s, error %d", c.what, s, e, c.want, c.e)
		}
	}
}

func TestE6(t *testing.T) {
	for _, f := range forms() {
		made := map[string]string{}
		for _, s := range f.some() {
			class, d, at := f.told(s)
			v, _ := Decode(f.format, s)
			again, e := Encode(f.format, v)
			if class == api.ClassNumber && !f.held(d, at) {
				if e != api.ErrState {
					t.Fatalf("%x of %d, that the grid has not: %x, error %d", s, f.format, again, e)
				}
				continue
			}
			w, ee := Decode(f.format, again)
			if e != api.OK || ee != api.OK || !sameValue(v, w) {
				t.Fatalf("%x of %d: %v, encoded %x, error %d, decoded %v, error %d", s, f.format, v, again, e, w, ee)
			}
			// A value that is not bare, and patterns of the same value, are encoded alike.
			if class == api.ClassNumber {
				v.Digits, v.Power = toNat(new(big.Int).Mul(toBig(v.Digits), power(f.radix, 37))), v.Power-37
				if other, e := Encode(f.format, v); other != again || e != api.OK {
					t.Fatalf("%v of %d: %x, error %d, and must be %x", v, f.format, other, e, again)
				}
			}
			key := fmt.Sprint(w)
			if made[key] != "" && made[key] != again {
				t.Fatalf("%v of %d: %x and %x", v, f.format, made[key], again)
			}
			made[key] = again
		}
	}
}

func TestP1WhateverIsHandedIn(t *testing.T) {
	numbers := []api.Nat{nil, {}, {0}, {1}, {5, 0}, slices.Repeat(api.Nat{math.MaxUint32}, 1200), slices.Repeat(api.Nat{1}, 1201)}
	powers := []int{math.MinInt, -20001, -20000, -149, -1, 0, 1, 57, 20000, 20001, math.MaxInt}
	for format := -1; format <= 10; format++ {
		for class := -1; class <= 7; class++ {
			for _, digits := range numbers {
				for _, at := range powers {
					for _, neg := range []bool{false, true} {
						if s, e := Encode(format, api.Value{Class: class, Neg: neg, Digits: digits, Power: at}); (s == "") != (e != api.OK) {
							t.Fatalf("%x beside error %d", s, e)
						}
					}
				}
			}
		}
	}
}

func TestP2AndP3Memory(t *testing.T) {
	for _, f := range forms() {
		for _, s := range f.some()[:200] {
			v, e := Decode(f.format, s)
			if e != api.OK {
				t.Fatal(e)
			}
			kept := slices.Clone(v.Digits)
			in := append(slices.Clone(v.Digits), 77, 78)
			spare := slices.Clone(in)
			v.Digits = in[:len(in)-2]
			first, e := Encode(f.format, v)
			if !slices.Equal(in, spare) {
				t.Fatalf("Encode changed what it was handed")
			}
			for i := range in {
				in[i] = 0xbad
			}
			v.Digits = kept
			if again, ee := Encode(f.format, v); again != first || e != ee {
				t.Fatalf("%v of %d: %x, and then %x", v, f.format, first, again)
			}
			w, _ := Decode(f.format, s)
			for i := range w.Digits {
				w.Digits[i] = 0xbad
			}
			if w, _ := Decode(f.format, s); !sameValue(v, w) {
				t.Fatalf("%x of %d: %v, and then %v", s, f.format, v, w)
			}
		}
	}
}
