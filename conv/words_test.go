package conv

import (
	"encoding/hex"
	"math"
	"math/big"
	"testing"

	"slipstick/api"
	"slipstick/arith"
	"slipstick/codec"
)

// What the chapter says, word for word, for the tests to hold the calls against. (That patterns are decoded rightly, and
// ratios fitted rightly, the tests of chapters 5 and 6 ask.)

// draw: numbers for long tests; the same each time.
type draw uint64

func (d *draw) below(n int) int {
	*d = *d*6364136223846793005 + 1442695040888963407
	return int(uint64(*d) >> 33 % uint64(n))
}

var wrongFormats = []int{math.MinInt, -1, 0, 9, 10, math.MaxInt}

var wrongWays = []int{math.MinInt, -1, 0, 6, 7, math.MaxInt}

const (
	first, last = api.FormatSingle, api.FormatVaxG
	even, down  = api.RoundEven, api.RoundDown
)

// letter of a format's family.
func letter(format int) byte { return "-AAABBCCC"[format] }

// bytesOf a text to the base of 16.
func bytesOf(t *testing.T, text string) string {
	t.Helper()
	b, err := hex.DecodeString(text)
	if err != nil {
		t.Fatal(err)
	}
	return string(b)
}

// pattern of a format: any, but often with bytes at the ends of what a byte may be.
func (d *draw) pattern(t *testing.T, format int) string {
	t.Helper()
	size, e := codec.Size(format)
	if e != api.OK {
		t.Fatal(e)
	}
	ends := []byte{0, 0, 1, 0x10, 0x3f, 0x40, 0x41, 0x7f, 0x80, 0xc0, 0xff, 0xff}
	kind := d.below(3)
	b := make([]byte, size)
	for i := range b {
		if b[i] = byte(d.below(256)); d.below(3) < kind {
			b[i] = ends[d.below(len(ends))]
		}
	}
	return string(b)
}

// decoded is the value of a pattern, and (of a number) the number that it is.
func decoded(t *testing.T, format int, s string) (api.Value, *big.Rat) {
	t.Helper()
	v, e := codec.Decode(format, s)
	g, f := codec.Grid(format)
	if e != api.OK || f != api.OK {
		t.Fatalf("format %d, %x: %d %d", format, s, e, f)
	}
	n := new(big.Int)
	for i := len(v.Digits) - 1; i >= 0; i-- {
		n.Or(n.Lsh(n, 32), big.NewInt(int64(v.Digits[i])))
	}
	if v.Neg {
		n.Neg(n)
	}
	scale := new(big.Int).Exp(big.NewInt(int64(g.Radix)), big.NewInt(int64(max(v.Power, -v.Power))), nil)
	if v.Power < 0 {
		return v, new(big.Rat).SetFrac(n, scale)
	}
	return v, new(big.Rat).SetInt(n.Mul(n, scale))
}

func encoded(t *testing.T, format int, v api.Value) string {
	t.Helper()
	s, e := codec.Encode(format, v)
	if e != api.OK {
		t.Fatalf("format %d, %v: %d", format, v, e)
	}
	return s
}

func natOf(n *big.Int) api.Nat {
	var a api.Nat
	for n = new(big.Int).Abs(n); n.Sign() > 0; n.Rsh(n, 32) {
		a = append(a, uint32(new(big.Int).And(n, big.NewInt(math.MaxUint32)).Uint64()))
	}
	return a
}

// fitted is a number, fitted.
func fitted(t *testing.T, x *big.Rat, format, way int) (string, int) {
	t.Helper()
	q := api.Ratio{Neg: x.Sign() < 0, Num: natOf(x.Num()), Den: natOf(x.Denom())}
	s, flags, e := arith.Fit(format, q, way)
	if e != api.OK {
		t.Fatalf("%v, format %d, way %d: %d", x, format, way, e)
	}
	return s, flags
}

// converted is what G1 says of a pattern.
func converted(t *testing.T, from int, s string, to, way int) (string, int) {
	t.Helper()
	v, x := decoded(t, from, s)
	nothing := map[byte]int{'A': api.ClassNone, 'B': api.ClassZero, 'C': api.ClassReserved}[letter(to)]
	inA := letter(to) == 'A'
	switch {
	case v.Class == api.ClassNumber:
		return fitted(t, x, to, way)
	case v.Class == api.ClassZero && inA:
		return encoded(t, to, api.Value{Class: api.ClassZero, Neg: v.Neg}), 0
	case v.Class == api.ClassZero:
		return encoded(t, to, api.Value{Class: api.ClassZero}), 0
	case v.Class == api.ClassInfinite && inA:
		return encoded(t, to, api.Value{Class: api.ClassInfinite, Neg: v.Neg}), 0
	case v.Class == api.ClassNone && inA:
		return encoded(t, to, api.Value{Class: api.ClassNone}), 0
	}
	return encoded(t, to, api.Value{Class: nothing}), api.FlagInvalid
}

// rounded is a number, rounded to a whole one.
func rounded(x *big.Rat, way int) *big.Int {
	below := new(big.Int).Div(x.Num(), x.Denom()) // Euclid's: Denom is above 0, so this goes down
	part := new(big.Rat).Sub(x, new(big.Rat).SetInt(below))
	if part.Sign() == 0 {
		return below
	}
	above := new(big.Int).Add(below, big.NewInt(1))
	half := part.Cmp(big.NewRat(1, 2))
	var up bool
	switch way {
	case api.RoundEven:
		up = half > 0 || half == 0 && below.Bit(0) == 1
	case api.RoundAway:
		up = half > 0 || half == 0 && x.Sign() > 0
	case api.RoundZero:
		up = x.Sign() < 0
	case api.RoundUp:
		up = true
	}
	if up {
		return above
	}
	return below
}

// wholeOf is what G2 says of a pattern.
func wholeOf(t *testing.T, format int, s string, way int) (int, int) {
	t.Helper()
	v, x := decoded(t, format, s)
	if v.Class != api.ClassNumber && v.Class != api.ClassZero {
		return 0, api.FlagInvalid
	}
	n := rounded(x, way)
	switch {
	case !n.IsInt64():
		return 0, api.FlagInvalid
	case !x.IsInt():
		return int(n.Int64()), api.FlagInexact
	}
	return int(n.Int64()), 0
}
