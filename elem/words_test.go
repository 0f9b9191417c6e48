package elem

import (
	"encoding/hex"
	"math"
	"math/big"
	"testing"

	"slipstick/api"
	"slipstick/arith"
	"slipstick/codec"
)

// What the chapter says, word for word, for the tests to hold the calls against. (That patterns are decoded rightly, and
// ratios fitted rightly, the tests of chapters 5 and 6 ask.)

// draw: numbers for long tests; the same each time.
type draw uint64

func (d *draw) below(n int) int {
	*d = *d*6364136223846793005 + 1442695040888963407
	return int(uint64(*d) >> 33 % uint64(n))
}

func (d *draw) bytes(n int) string {
	b := make([]byte, n)
	for i := range b {
		b[i] = byte(d.below(256))
	}
	return string(b)
}

const (
	firstKind, lastKind     = api.KindExp, api.KindLog1p
	firstFormat, lastFormat = api.FormatSingle, api.FormatVaxG
	firstWay, lastWay       = api.RoundEven, api.RoundDown
)

// wrongs are numbers that are no kind, no format and no way.
var wrongs = []int{math.MinInt, -1, 0, 10, 11, 1 << 32, 1<<32 + 1, math.MaxInt}

// letter of a format's family.
func letter(format int) byte { return "-AAABBCCC"[format] }

func bytesOf(t *testing.T, text string) string {
	t.Helper()
	b, err := hex.DecodeString(text)
	if err != nil {
		t.Fatal(err)
	}
	return string(b)
}

func encoded(t *testing.T, format int, v api.Value) string {
	t.Helper()
	s, e := codec.Encode(format, v)
	if e != api.OK {
		t.Fatalf("format %d, %v: error %d", format, v, e)
	}
	return s
}

func sizeOf(t *testing.T, format int) int {
	t.Helper()
	n, e := codec.Size(format)
	if e != api.OK {
		t.Fatal(e)
	}
	return n
}

func gridOf(t *testing.T, format int) api.Grid {
	t.Helper()
	g, e := codec.Grid(format)
	if e != api.OK {
		t.Fatal(e)
	}
	return g
}

// width is how many bits a digit of a grid has.
func width(g api.Grid) int { return map[int]int{2: 1, 16: 4}[g.Radix] }

func natOf(n *big.Int) api.Nat {
	var a api.Nat
	for n = new(big.Int).Abs(n); n.Sign() > 0; n.Rsh(n, 32) {
		a = append(a, uint32(new(big.Int).And(n, big.NewInt(math.MaxUint32)).Uint64()))
	}
	return a
}

// decoded is the value of a pattern, and (of a number) the number that it is, with all of its bits.
func decoded(t *testing.T, format int, s string) (api.Value, *big.Float) {
	t.Helper()
	v, e := codec.Decode(format, s)
	if e != api.OK {
		t.Fatalf("format %d, %x: error %d", format, s, e)
	}
	n := new(big.Int)
	for i := len(v.Digits) - 1; i >= 0; i-- {
		n.Or(n.Lsh(n, 32), big.NewInt(int64(v.Digits[i])))
	}
	if v.Neg {
		n.Neg(n)
	}
	x := pen(plenty).fresh().SetInt(n)
	return v, x.SetMantExp(x, width(gridOf(t, format))*v.Power)
}

// told is a pattern and flags that a call answers, or an error.
type told struct {
	s     string
	flags int
	e     api.Errno
}

func call(kind, format int, s string, way, most int) told {
	p, n, e := Call(kind, format, s, way, most)
	return told{p, n, e}
}

// exactlyOf is a number of few bits, fitted.
func exactlyOf(format int, x *big.Float, way int) told {
	const bits = 1000
	mantissa := new(big.Float)
	exp := x.MantExp(mantissa) - bits
	n, _ := mantissa.SetMantExp(mantissa, bits).Int(nil)
	s, flags, e := arith.Fit(format, api.Ratio{Neg: x.Sign() < 0, Num: natOf(n), Den: api.Nat{1}, Exp: exp}, way)
	return told{s, flags, e}
}

// nearlyOf is a number of which no bits are all, fitted: so many of its bits, and one more that tells that something is left.
func nearlyOf(format int, x *big.Float, way int) told {
	const bits = 700
	mantissa := new(big.Float)
	exp := x.MantExp(mantissa) - bits
	n, _ := mantissa.SetMantExp(mantissa, bits).Int(nil)
	n.Abs(n).Lsh(n, 1).SetBit(n, 0, 1)
	s, flags, e := arith.Fit(format, api.Ratio{Neg: x.Sign() < 0, Num: natOf(n), Den: api.Nat{1}, Exp: exp - 1}, way)
	return told{s, flags, e}
}

// patternOf a number that a format has.
func patternOf(t *testing.T, format int, x float64) string {
	t.Helper()
	w := exactlyOf(format, pen(plenty).fresh().SetFloat64(x), api.RoundEven)
	if w.flags != 0 || w.e != api.OK {
		t.Fatalf("format %d has not %v", format, x)
	}
	return w.s
}

// nearestTo a number, of those that a format has.
func nearestTo(format int, x *big.Float) string { return exactlyOf(format, x, api.RoundEven).s }

// nothing of a format.
func nothing(t *testing.T, format int) string {
	t.Helper()
	return encoded(t, format, api.Value{Class: map[byte]int{'A': api.ClassNone, 'B': api.ClassZero, 'C': api.ClassReserved}[letter(format)]})
}

// greatestOf a format.
func greatestOf(t *testing.T, format int, neg bool) string {
	t.Helper()
	g := gridOf(t, format)
	d := new(big.Int).Lsh(big.NewInt(1), uint(width(g)*g.Digits))
	return encoded(t, format, api.Value{Class: api.ClassNumber, Neg: neg, Digits: natOf(d.Sub(d, big.NewInt(1))), Power: g.Greatest})
}

// poleOf is what K3 says of Log of 0.
func poleOf(t *testing.T, format int) told {
	t.Helper()
	switch letter(format) {
	case 'A':
		return told{encoded(t, format, api.Value{Class: api.ClassInfinite, Neg: true}), api.FlagZero, api.OK}
	case 'B':
		return told{greatestOf(t, format, true), api.FlagZero, api.OK}
	}
	return told{nothing(t, format), api.FlagZero, api.OK}
}

// ofZero is what K3 says of 0.
func ofZero(t *testing.T, kind, format int, neg bool) told {
	t.Helper()
	switch kind {
	case api.KindExp, api.KindCos, api.KindExp2:
		return told{patternOf(t, format, 1), 0, api.OK}
	case api.KindLog, api.KindLog2:
		return poleOf(t, format)
	}
	return told{encoded(t, format, api.Value{Class: api.ClassZero, Neg: neg && letter(format) == 'A'}), 0, api.OK}
}

// ofInfinite is what K3 says of what is infinite.
func ofInfinite(t *testing.T, kind, format int, neg bool, way int) told {
	t.Helper()
	switch {
	case kind == api.KindSin || kind == api.KindCos:
		return told{nothing(t, format), api.FlagInvalid, api.OK}
	case kind == api.KindArctan:
		quarter := pen(plenty).pi()
		if quarter.SetMantExp(quarter, -1); neg {
			quarter.Neg(quarter)
		}
		return nearlyOf(format, quarter, way)
	case !neg:
		return told{encoded(t, format, api.Value{Class: api.ClassInfinite}), 0, api.OK}
	case kind == api.KindExp || kind == api.KindExp2:
		return told{encoded(t, format, api.Value{Class: api.ClassZero}), 0, api.OK}
	case kind == api.KindExpm1:
		return told{patternOf(t, format, -1), 0, api.OK}
	}
	return told{nothing(t, format), api.FlagInvalid, api.OK}
}

// ofBits is what K4 says of a number: its function, if that is a number of bits.
func ofBits(kind int, x *big.Float) (*big.Float, bool) {
	p := pen(plenty)
	power := x.MantExp(nil) - 1
	switch {
	case kind == api.KindLog && x.Cmp(p.whole(1)) == 0:
		return p.whole(0), true
	case kind == api.KindExp2 && x.IsInt():
		n, _ := x.Int64()
		// Beyond all grids one power is as good as another one.
		n = min(max(n, -18000), 18000)
		return p.scaled(p.whole(1), int(n)), true
	case kind == api.KindLog2 && x.Cmp(p.scaled(p.whole(1), power)) == 0:
		return p.whole(int64(power)), true
	}
	return nil, false
}

// wanted is what the chapter says of a kind and a pattern by each way, but ErrUnsure; and the value, if that is rounded.
type wanted struct {
	by    func(way int) told
	value *big.Float
}

// always the same, by whatever way.
func always(w told) wanted { return wanted{by: func(int) told { return w }} }

// ofNumber is what K2 to K4 say of a number.
func ofNumber(t *testing.T, kind, format int, x *big.Float) wanted {
	t.Helper()
	p := pen(plenty)
	invalid := always(told{nothing(t, format), api.FlagInvalid, api.OK})
	switch {
	case (kind == api.KindSin || kind == api.KindCos) && x.MantExp(nil) > 1200:
		return always(told{e: api.ErrMany})
	case (kind == api.KindLog || kind == api.KindLog2) && x.Sign() < 0:
		return invalid
	case kind == api.KindLog1p && x.Cmp(p.whole(-1)) < 0:
		return invalid
	case kind == api.KindLog1p && x.Cmp(p.whole(-1)) == 0:
		return always(poleOf(t, format))
	}
	if y, ok := ofBits(kind, x); ok {
		return wanted{by: func(way int) told { return exactlyOf(format, y, way) }}
	}
	y := truth(kind, x)
	return wanted{func(way int) told { return nearlyOf(format, y, way) }, y}
}

// unsure tells whether ErrUnsure may be told of a value: whether some numbers near to it do not come to the same.
func unsure(format int, y *big.Float, way, bits int) bool {
	little := new(big.Float).SetMantExp(y, 16-bits)
	low, high := new(big.Float).Sub(y, little), new(big.Float).Add(y, little)
	return nearlyOf(format, low, way) != nearlyOf(format, high, way)
}

// asked is what K2 to K4 say of a pattern.
func asked(t *testing.T, kind, format int, s string) wanted {
	t.Helper()
	v, x := decoded(t, format, s)
	switch v.Class {
	case api.ClassNone:
		return always(told{encoded(t, format, api.Value{Class: api.ClassNone}), 0, api.OK})
	case api.ClassReserved:
		return always(told{nothing(t, format), api.FlagInvalid, api.OK})
	case api.ClassZero:
		return always(ofZero(t, kind, format, v.Neg))
	case api.ClassInfinite:
		return wanted{by: func(way int) told { return ofInfinite(t, kind, format, v.Neg, way) }}
	}
	return ofNumber(t, kind, format, x)
}
