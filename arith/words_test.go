package arith

import (
	"math"
	"math/big"
	"testing"

	"slipstick/api"
	"slipstick/codec"
)

// What the chapter says, word for word, for the tests to hold the calls against.

// exact is num over den times 2 to the power of exp, or (neg) its opposite.
type exact struct {
	neg      bool
	num, den *big.Int
	exp      int
}

// value that is asked of, or answered.
type value struct {
	class int
	neg   bool
	exact exact
}

// form is a format, as chapter 5 has it, and the letter of its family.
type form struct {
	api.Grid
	format int
	family byte
	bits   int // of a digit
}

func formOf(t *testing.T, format int) form {
	t.Helper()
	g, e := codec.Grid(format)
	if e != api.OK {
		t.Fatal(e)
	}
	f := form{g, format, "-AAABBCCC"[format], 1}
	if g.Radix == 16 {
		f.bits = 4
	}
	return f
}

func toBig(a api.Nat) *big.Int {
	n := new(big.Int)
	for i := len(a) - 1; i >= 0; i-- {
		n.Or(n.Lsh(n, 32), big.NewInt(int64(a[i])))
	}
	return n
}

func toNat(n *big.Int) api.Nat {
	var a api.Nat
	for n = new(big.Int).Set(n); n.Sign() > 0; n.Rsh(n, 32) {
		a = append(a, uint32(new(big.Int).And(n, big.NewInt(math.MaxUint32)).Uint64()))
	}
	return a
}

func (f form) decode(t *testing.T, s string) value {
	t.Helper()
	v, e := codec.Decode(f.format, s)
	if e != api.OK {
		t.Fatalf("%x of %d: error %d", s, f.format, e)
	}
	return value{v.Class, v.Neg, exact{v.Neg, toBig(v.Digits), big.NewInt(1), f.bits * v.Power}}
}

func (f form) encode(t *testing.T, v api.Value) string {
	t.Helper()
	s, e := codec.Encode(f.format, v)
	if e != api.OK {
		t.Fatalf("%v of %d: error %d", v, f.format, e)
	}
	return s
}

// nothing of a format, as a pattern.
func (f form) nothing(t *testing.T) string {
	return f.encode(t, api.Value{Class: map[byte]int{'A': api.ClassNone, 'B': api.ClassZero, 'C': api.ClassReserved}[f.family]})
}

func (f form) greatest(neg bool) api.Value {
	d := new(big.Int).Lsh(big.NewInt(1), uint(f.bits*f.Digits))
	return api.Value{Class: api.ClassNumber, Neg: neg, Digits: toNat(d.Sub(d, big.NewInt(1))), Power: f.Greatest}
}

// divided is how often den is in num times 2 to the power of n, and whether what is left is less than a half (-1), a half,
// or more; and whether there is something left.
func divided(num, den *big.Int, n int) (whole *big.Int, half int, left bool) {
	if n >= 0 {
		num = new(big.Int).Lsh(num, uint(n))
	} else {
		den = new(big.Int).Lsh(den, uint(-n))
	}
	whole, rest := new(big.Int).QuoRem(num, den, new(big.Int))
	left = rest.Sign() > 0
	return whole, rest.Lsh(rest, 1).Cmp(den), left
}

// fit is what F3 says of a number that is not 0.
func (f form) fit(t *testing.T, x exact, way int) (string, int) {
	t.Helper()
	end := new(big.Int).Lsh(big.NewInt(1), uint(f.bits*f.Digits))
	power := (x.num.BitLen()-x.den.BitLen()+x.exp-2)/f.bits - f.Digits - 1
	d, half, left := divided(x.num, x.den, x.exp-f.bits*power)
	for d.Cmp(end) >= 0 {
		power++
		d, half, left = divided(x.num, x.den, x.exp-f.bits*power)
	}
	under := power < f.Least
	if under && f.Gradual {
		power = f.Least
		d, half, left = divided(x.num, x.den, x.exp-f.bits*power)
	}
	away := way == api.RoundEven && (half > 0 || half == 0 && d.Bit(0) == 1) || way == api.RoundAway && half >= 0 ||
		way == api.RoundUp && !x.neg || way == api.RoundDown && x.neg
	if left && away {
		d.Add(d, big.NewInt(1))
	}
	if d.Cmp(end) == 0 {
		power++
		d.Rsh(d, uint(f.bits))
	}
	if power > f.Greatest {
		return f.tooGreat(t, x.neg, way), api.FlagOver + api.FlagInexact
	}
	if f.family != 'A' && under {
		if power < f.Least {
			return f.encode(t, api.Value{Class: api.ClassZero}), api.FlagUnder + api.FlagInexact
		}
		left = true
	}
	flags := 0
	if left {
		flags = api.FlagInexact
	}
	if left && under {
		flags += api.FlagUnder
	}
	if d.Sign() == 0 {
		return f.encode(t, api.Value{Class: api.ClassZero, Neg: x.neg}), flags
	}
	return f.encode(t, api.Value{Class: api.ClassNumber, Neg: x.neg, Digits: toNat(d), Power: power}), flags
}

func (f form) tooGreat(t *testing.T, neg bool, way int) string {
	infinite := map[int]bool{api.RoundEven: true, api.RoundAway: true, api.RoundUp: !neg, api.RoundDown: neg}
	switch {
	case f.family == 'C':
		return f.nothing(t)
	case f.family == 'A' && infinite[way]:
		return f.encode(t, api.Value{Class: api.ClassInfinite, Neg: neg})
	}
	return f.encode(t, f.greatest(neg))
}

// fitOrZero is fit, and, of 0, 0 with a sign in A alone.
func (f form) fitOrZero(t *testing.T, x exact, neg bool, way int) (string, int) {
	t.Helper()
	if x.num.Sign() == 0 {
		return f.encode(t, api.Value{Class: api.ClassZero, Neg: neg && f.family == 'A'}), 0
	}
	return f.fit(t, x, way)
}

func (f form) infinite(t *testing.T, neg bool) string {
	return f.encode(t, api.Value{Class: api.ClassInfinite, Neg: neg})
}

func plus(x, y exact) exact {
	exp := min(x.exp, y.exp)
	sum := new(big.Int).Lsh(x.num, uint(x.exp-exp))
	other := new(big.Int).Lsh(y.num, uint(y.exp-exp))
	if x.neg {
		sum.Neg(sum)
	}
	if y.neg {
		other.Neg(other)
	}
	sum.Add(sum, other)
	return exact{sum.Sign() < 0, sum.Abs(sum), big.NewInt(1), exp}
}

func times(x, y exact) exact {
	return exact{x.neg != y.neg, new(big.Int).Mul(x.num, y.num), big.NewInt(1), x.exp + y.exp}
}

// none is what F5 and F6 say where one of the values is of ClassNone or ClassReserved.
func (f form) none(t *testing.T, list ...value) (string, int, bool) {
	for _, v := range list {
		switch v.class {
		case api.ClassNone:
			return f.nothing(t), 0, true
		case api.ClassReserved:
			return f.nothing(t), api.FlagInvalid, true
		}
	}
	return "", 0, false
}

func (f form) add(t *testing.T, a, b value, way int) (string, int) {
	t.Helper()
	if s, flags, ok := f.none(t, a, b); ok {
		return s, flags
	}
	x, y := a.class == api.ClassInfinite, b.class == api.ClassInfinite
	switch {
	case x && y && a.neg != b.neg:
		return f.nothing(t), api.FlagInvalid
	case x:
		return f.infinite(t, a.neg), 0
	case y:
		return f.infinite(t, b.neg), 0
	}
	neg := way == api.RoundDown
	if a.class == api.ClassZero && b.class == api.ClassZero && a.neg == b.neg {
		neg = a.neg
	}
	return f.fitOrZero(t, plus(a.exact, b.exact), neg, way)
}

func (f form) sub(t *testing.T, a, b value, way int) (string, int) {
	t.Helper()
	b.neg, b.exact.neg = !b.neg, !b.exact.neg
	return f.add(t, a, b, way)
}

// multiplied is a value that is not rounded; false: INVALID.
func multiplied(a, b value) (value, bool) {
	x, y := a.class == api.ClassInfinite, b.class == api.ClassInfinite
	neg := a.neg != b.neg
	switch {
	case x && b.class == api.ClassZero || y && a.class == api.ClassZero:
		return value{}, false
	case x || y:
		return value{class: api.ClassInfinite, neg: neg}, true
	case a.class == api.ClassZero || b.class == api.ClassZero:
		return value{api.ClassZero, neg, exact{neg, new(big.Int), big.NewInt(1), 0}}, true
	}
	return value{api.ClassNumber, neg, times(a.exact, b.exact)}, true
}

func (f form) mul(t *testing.T, a, b value, way int) (string, int) {
	t.Helper()
	if s, flags, ok := f.none(t, a, b); ok {
		return s, flags
	}
	p, ok := multiplied(a, b)
	switch {
	case !ok:
		return f.nothing(t), api.FlagInvalid
	case p.class == api.ClassInfinite:
		return f.infinite(t, p.neg), 0
	}
	return f.fitOrZero(t, p.exact, p.neg, way)
}

func (f form) fused(t *testing.T, a, b, c value, way int) (string, int) {
	t.Helper()
	if s, flags, ok := f.none(t, a, b, c); ok {
		return s, flags
	}
	p, ok := multiplied(a, b)
	if !ok {
		return f.nothing(t), api.FlagInvalid
	}
	return f.add(t, p, c, way)
}

func (f form) div(t *testing.T, a, b value, way int) (string, int) {
	t.Helper()
	if s, flags, ok := f.none(t, a, b); ok {
		return s, flags
	}
	x, y := a.class == api.ClassInfinite, b.class == api.ClassInfinite
	neg := a.neg != b.neg
	switch {
	case x && y || a.class == api.ClassZero && b.class == api.ClassZero:
		return f.nothing(t), api.FlagInvalid
	case x:
		return f.infinite(t, neg), 0
	case y:
		return f.encode(t, api.Value{Class: api.ClassZero, Neg: neg}), 0
	case b.class == api.ClassZero && f.family == 'A':
		return f.infinite(t, neg), api.FlagZero
	case b.class == api.ClassZero && f.family == 'B':
		return f.encode(t, f.greatest(neg)), api.FlagZero
	case b.class == api.ClassZero:
		return f.nothing(t), api.FlagZero
	}
	return f.fitOrZero(t, exact{neg, a.exact.num, b.exact.num, a.exact.exp - b.exact.exp}, neg, way)
}

// sqrt is rounded as what lies between the same two numbers of very many bits.
func (f form) sqrt(t *testing.T, a value, way int) (string, int) {
	t.Helper()
	if s, flags, ok := f.none(t, a); ok {
		return s, flags
	}
	switch {
	case a.class == api.ClassZero:
		return f.encode(t, api.Value{Class: api.ClassZero, Neg: a.neg && f.family == 'A'}), 0
	case a.neg:
		return f.nothing(t), api.FlagInvalid
	case a.class == api.ClassInfinite:
		return f.infinite(t, false), 0
	}
	shift := uint(600 + a.exact.exp&1)
	square := new(big.Int).Lsh(a.exact.num, shift)
	root := new(big.Int).Sqrt(square)
	left := new(big.Int).Mul(root, root).Cmp(square) < 0
	root.Lsh(root, 1)
	if left {
		root.SetBit(root, 0, 1)
	}
	return f.fit(t, exact{false, root, big.NewInt(1), (a.exact.exp-int(shift))/2 - 1}, way)
}

// compare is what F7 says.
func (f form) compare(a, b value) (int, bool) {
	for _, v := range []value{a, b} {
		if v.class == api.ClassNone || v.class == api.ClassReserved {
			return 0, false
		}
	}
	x, y := a.class == api.ClassInfinite, b.class == api.ClassInfinite
	switch {
	case x && y && a.neg == b.neg:
		return 0, true
	case x && a.neg || y && !b.neg:
		return -1, true
	case x || y:
		return 1, true
	}
	b.exact.neg = !b.exact.neg
	difference := plus(a.exact, b.exact)
	switch {
	case difference.num.Sign() == 0:
		return 0, true
	case difference.neg:
		return -1, true
	}
	return 1, true
}
