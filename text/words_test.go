package text

import (
	"encoding/hex"
	"math"
	"math/big"
	"strconv"
	"strings"
	"testing"

	"slipstick/api"
	"slipstick/codec"
)

// What the chapter says, word for word, for the tests to hold the calls against. (That patterns are decoded rightly, and
// ratios fitted rightly, the tests of chapters 5 and 6 ask.)

// draw: numbers for long tests; the same each time.
type draw uint64

func (d *draw) below(n int) int {
	*d = *d*6364136223846793005 + 1442695040888963407
	return int(uint64(*d) >> 33 % uint64(n))
}

var wrongFormats = []int{math.MinInt, -1, 0, 9, 10, math.MaxInt}

var wrongWays = []int{math.MinInt, -1, 0, 6, 7, math.MaxInt}

const (
	first, last = api.FormatSingle, api.FormatVaxG
	even, down  = api.RoundEven, api.RoundDown
)

// bytesOf a text to the base of 16.
func bytesOf(t *testing.T, text string) string {
	t.Helper()
	b, err := hex.DecodeString(text)
	if err != nil {
		t.Fatal(err)
	}
	return string(b)
}

func bigOf(a api.Nat) *big.Int {
	n := new(big.Int)
	for i := len(a) - 1; i >= 0; i-- {
		n.Or(n.Lsh(n, 32), big.NewInt(int64(a[i])))
	}
	return n
}

func natOf(n *big.Int) api.Nat {
	var a api.Nat
	for n = new(big.Int).Abs(n); n.Sign() > 0; n.Rsh(n, 32) {
		a = append(a, uint32(new(big.Int).And(n, big.NewInt(math.MaxUint32)).Uint64()))
	}
	return a
}

// raised is x times a base to the power of n.
func raised(x *big.Rat, base, n int) *big.Rat {
	scale := new(big.Rat).SetInt(new(big.Int).Exp(big.NewInt(int64(base)), big.NewInt(int64(max(n, -n))), nil))
	if n < 0 {
		scale.Inv(scale)
	}
	return scale.Mul(x, scale)
}

// pattern of a format: any, but often with bytes at the ends of what a byte may be.
func (d *draw) pattern(t *testing.T, format int) string {
	t.Helper()
	size, e := codec.Size(format)
	if e != api.OK {
		t.Fatal(e)
	}
	ends := []byte{0, 0, 1, 0x10, 0x3f, 0x40, 0x41, 0x7f, 0x80, 0xc0, 0xff, 0xff}
	kind := d.below(3)
	b := make([]byte, size)
	for i := range b {
		if b[i] = byte(d.below(256)); d.below(3) < kind {
			b[i] = ends[d.below(len(ends))]
		}
	}
	return string(b)
}

// decoded is the value of a pattern, and (of a number) the number that it is, without its sign.
func decoded(t *testing.T, format int, s string) (api.Value, *big.Rat) {
	t.Helper()
	v, e := codec.Decode(format, s)
	g, f := codec.Grid(format)
	if e != api.OK || f != api.OK {
		t.Fatalf("format %d, %x: %d %d", format, s, e, f)
	}
	return v, raised(new(big.Rat).SetInt(bigOf(v.Digits)), g.Radix, v.Power)
}

// printed is what H3 says of a pattern.
func printed(t *testing.T, format int, s string, digits int) string {
	t.Helper()
	v, x := decoded(t, format, s)
	sign := ""
	if v.Neg {
		sign = "-"
	}
	switch v.Class {
	case api.ClassZero:
		return sign + "0"
	case api.ClassInfinite:
		return sign + "inf"
	case api.ClassNone:
		return "none"
	case api.ClassReserved:
		return "reserved"
	}
	whole, power := leading(x, digits)
	text := whole.String()
	if digits > 1 {
		text = text[:1] + "." + text[1:]
	}
	return sign + text + "e" + strconv.Itoa(power)
}

// leading digits of a number above 0, rounded, and the power of ten of the first one.
func leading(x *big.Rat, digits int) (*big.Int, int) {
	end := new(big.Int).Exp(big.NewInt(10), big.NewInt(int64(digits)), nil)
	power := (x.Num().BitLen() - x.Denom().BitLen()) * 3 / 10
	for raised(x, 10, -power).Cmp(big.NewRat(10, 1)) >= 0 {
		power++
	}
	for raised(x, 10, -power).Cmp(big.NewRat(1, 1)) < 0 {
		power--
	}
	scaled := raised(x, 10, digits-1-power)
	whole := new(big.Int).Div(scaled.Num(), scaled.Denom())
	part := new(big.Rat).Sub(scaled, new(big.Rat).SetInt(whole))
	if c := part.Cmp(big.NewRat(1, 2)); c > 0 || c == 0 && whole.Bit(0) == 1 {
		whole.Add(whole, big.NewInt(1))
	}
	if whole.Cmp(end) == 0 {
		return whole.Div(whole, big.NewInt(10)), power + 1
	}
	return whole, power
}

// ratioOf is what H1 says of a text that is a numeral, in bounds.
func ratioOf(t *testing.T, text string) api.Ratio {
	t.Helper()
	mantissa, after, _ := strings.Cut(text, "e")
	x, ok := new(big.Rat).SetString(mantissa)
	power, err := strconv.Atoi("0" + strings.TrimPrefix(after, "-"))
	if !ok || err != nil {
		t.Fatal(text, err)
	}
	if strings.HasPrefix(after, "-") {
		power = -power
	}
	x = raised(x, 10, power)
	if x.Sign() == 0 {
		return api.Ratio{Den: api.Nat{1}}
	}
	num, den := new(big.Int).Abs(x.Num()), x.Denom()
	up, down := num.TrailingZeroBits(), den.TrailingZeroBits()
	return api.Ratio{
		Neg: x.Sign() < 0,
		Num: natOf(new(big.Int).Rsh(num, up)), Den: natOf(new(big.Int).Rsh(den, down)),
		Exp: int(up) - int(down),
	}
}

// edges of a format: each class that it has, the ends of its grid, numbers whose neighbours are not as far on both sides, and
// their neighbours, all with both signs.
func edges(t *testing.T, format int) []string {
	t.Helper()
	g, e := codec.Grid(format)
	if e != api.OK {
		t.Fatal(e)
	}
	radix, one := big.NewInt(int64(g.Radix)), big.NewInt(1)
	end := new(big.Int).Exp(radix, big.NewInt(int64(g.Digits)), nil)
	lead := new(big.Int).Div(end, radix)
	powers := []int{g.Least, g.Least + 1, g.Least + 2, g.Greatest - 1, g.Greatest}
	for i := -60; i <= 20; i += 7 {
		powers = append(powers, i)
	}
	var list []string
	add := func(v api.Value) {
		if s, e := codec.Encode(format, v); e == api.OK {
			list = append(list, s)
		}
	}
	for _, neg := range []bool{false, true} {
		for class := api.ClassZero; class <= api.ClassReserved; class++ {
			add(api.Value{Class: class, Neg: neg})
		}
		for _, k := range powers {
			for _, d := range []*big.Int{one, lead, new(big.Int).Add(lead, one), new(big.Int).Sub(end, one)} {
				add(api.Value{Class: api.ClassNumber, Neg: neg, Digits: natOf(d), Power: k})
			}
		}
	}
	return list
}
