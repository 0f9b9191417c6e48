package series

import (
	"math"
	"math/big"
	"slices"
	"testing"

	"slipstick/api"
	"slipstick/ball"
	"slipstick/dyad"
)

// behind is how many bits what the balls are held against has behind the point.
const behind = 1400

func unit() *big.Int { return new(big.Int).Lsh(big.NewInt(1), behind) }

// added up are terms of which each is the one ahead of it times a ratio, until there is nothing left.
func added(first *big.Int, next func(k int64) (times, over int64)) *big.Int {
	sum, term := new(big.Int).Set(first), new(big.Int).Set(first)
	for k := int64(1); term.Sign() != 0; k++ {
		times, over := next(k)
		term.Mul(term, big.NewInt(times)).Quo(term, big.NewInt(over))
		sum.Add(sum, term)
	}
	return sum
}

// atan of 1 over n by Euler's sum, all of whose terms are above 0.
func atan(n int64) *big.Int {
	first := unit()
	first.Mul(first, big.NewInt(n)).Quo(first, big.NewInt(n*n+1))
	return added(first, func(k int64) (int64, int64) { return 2 * k, (2*k + 1) * (n*n + 1) })
}

// atanh of 1 over n as a half of the logarithm of n + 1 over n - 1: that is the opposite of that of 1 less y, which is 2
// over n + 1.
func atanh(n int64) *big.Int {
	first := unit()
	first.Mul(first, big.NewInt(2)).Quo(first, big.NewInt(n+1))
	sum := added(first, func(k int64) (int64, int64) { return 2 * k, (n + 1) * (k + 1) })
	return sum.Rsh(sum, 1)
}

// pi by the mean of the arithmetic and the geometric mean.
func pi() *big.Int {
	number := func(x float64) *big.Float { return big.NewFloat(x).SetPrec(behind + 64) }
	a, b, rest := number(1), number(0.5), number(0.25)
	b.Sqrt(b)
	for i := range 12 {
		mean := number(0).Add(a, b)
		mean.Quo(mean, number(2))
		away := number(0).Sub(a, mean)
		rest.Sub(rest, away.Mul(away, away).Mul(away, number(float64(int(1)<<i))))
		b.Mul(a, b).Sqrt(b)
		a = mean
	}
	a.Mul(a, a).Quo(a, rest)
	n, _ := a.SetMantExp(a, behind).Int(nil)
	return n
}

// ln2 as the sum of 1 over k times 2 to the power of k.
func ln2() *big.Int {
	half := unit()
	return added(half.Rsh(half, 1), func(k int64) (int64, int64) { return k, 2 * (k + 1) })
}

func toBig(a api.Nat) *big.Int {
	b := make([]byte, 0, 4*len(a))
	for i := len(a) - 1; i >= 0; i-- {
		b = append(b, byte(a[i]>>24), byte(a[i]>>16), byte(a[i]>>8), byte(a[i]))
	}
	return new(big.Int).SetBytes(b)
}

func power(n int) *big.Int { return new(big.Int).Lsh(big.NewInt(1), uint(n)) }

func value(a api.Dyad) *big.Rat {
	n := toBig(a.Mantissa)
	if a.Neg {
		n.Neg(n)
	}
	if a.Exp < 0 {
		return new(big.Rat).SetFrac(n, power(-a.Exp))
	}
	return new(big.Rat).SetInt(n.Lsh(n, uint(a.Exp)))
}

func bare(a api.Dyad) bool {
	if len(a.Mantissa) == 0 {
		return !a.Neg && a.Exp == 0
	}
	return dyad.Check(a) == api.OK && a.Mantissa[0]%2 == 1
}

func zero(a api.Dyad) bool { return !a.Neg && len(a.Mantissa) == 0 && a.Exp == 0 }

func refused(t *testing.T, what string, got api.Ball, e, want api.Errno) {
	t.Helper()
	if e != want || !zero(got.Low) || !zero(got.High) {
		t.Errorf("%s: %v, error %d, and must be error %d alone", what, got, e, want)
	}
}

// held asks what I1 asks, of a number that is known to some thousand units.
func held(t *testing.T, name string, bits int, got api.Ball, e api.Errno, want *big.Int) {
	t.Helper()
	if e != api.OK || !bare(got.Low) || !bare(got.High) {
		t.Fatalf("%s by %d bits: %v, error %d", name, bits, got, e)
	}
	low, high := value(got.Low), value(got.High)
	little := big.NewInt(1 << 14)
	least := new(big.Rat).SetFrac(new(big.Int).Sub(want, little), unit())
	most := new(big.Rat).SetFrac(new(big.Int).Add(want, little), unit())
	if low.Cmp(most) > 0 || high.Cmp(least) < 0 || low.Cmp(high) >= 0 {
		t.Fatalf("%s by %d bits: the number is not from %v to %v", name, bits, low, high)
	}
	if high.Sub(high, low).Cmp(new(big.Rat).SetFrac(big.NewInt(16), power(bits))) > 0 {
		t.Fatalf("%s by %d bits: too wide", name, bits)
	}
}

func TestI1PiAndLn2(t *testing.T) {
	round, two := pi(), ln2()
	for bits := 10; bits <= 1000; bits++ {
		got, e := Pi(bits)
		held(t, "Pi", bits, got, e, round)
		got, e = Ln2(bits)
		held(t, "Ln2", bits, got, e, two)
	}
}

// Digits that anyone may look up.
func TestI1KnownDigits(t *testing.T) {
	pi, _ := Pi(110)
	two, _ := Ln2(110)
	third, _ := Atanh(2, 110)
	half, _ := Atan(2, 110)
	for text, got := range map[string]api.Ball{
		"3.14159265358979323846264338327950": pi,
		"0.69314718055994530941723212145817": two,
		"0.54930614433405484569762261846126": third,
		"0.46364760900080611621425623146121": half,
	} {
		want, _ := new(big.Rat).SetString(text)
		end := new(big.Rat).Add(want, big.NewRat(1, 1e18))
		low := want.Sub(want, big.NewRat(1, 1e18))
		if value(got.Low).Cmp(low) < 0 || value(got.High).Cmp(end) > 0 {
			t.Errorf("%s: %v", text, got)
		}
	}
}

func TestI1Inverses(t *testing.T) {
	for n := 2; n <= 1000; n++ {
		some := []int{10 + n%991}
		if n < 6 || n == 26 || n == 239 || n > 998 {
			some = []int{10, 11, 12, 31, 32, 33, 63, 64, 65, 200, 999, 1000}
		}
		tan, tanh := atan(int64(n)), atanh(int64(n))
		for _, bits := range some {
			got, e := Atan(n, bits)
			held(t, "Atan", bits, got, e, tan)
			got, e = Atanh(n, bits)
			held(t, "Atanh", bits, got, e, tanh)
		}
	}
}

func TestI1Errors(t *testing.T) {
	for _, bits := range []int{math.MinInt, -10, 0, 1, 9, 1001, 4096, 1<<32 + 10, math.MaxInt} {
		got, e := Pi(bits)
		refused(t, "Pi", got, e, api.ErrRange)
		got, e = Ln2(bits)
		refused(t, "Ln2", got, e, api.ErrRange)
		for _, n := range []int{-5, 1, 2, 1000, 1001} {
			got, e = Atan(n, bits)
			refused(t, "Atan", got, e, api.ErrRange)
			got, e = Atanh(n, bits)
			refused(t, "Atanh", got, e, api.ErrRange)
		}
	}
	for _, n := range []int{math.MinInt, -2, -1, 0, 1, 1001, 4801, 65536, 1<<32 + 5, math.MaxInt} {
		for _, bits := range []int{10, 500, 1000} {
			got, e := Atan(n, bits)
			refused(t, "Atan", got, e, api.ErrRange)
			got, e = Atanh(n, bits)
			refused(t, "Atanh", got, e, api.ErrRange)
		}
	}
}

// small is n times 2 to the power of exp.
func small(n, exp int) api.Dyad {
	if n == 0 {
		return api.Dyad{Exp: exp}
	}
	return api.Dyad{Neg: n < 0, Mantissa: api.Nat{uint32(max(n, -n))}, Exp: exp}
}

// times is a whole number times a ball, by many bits.
func times(t *testing.T, n int, a api.Ball) api.Ball {
	t.Helper()
	got, e := ball.Mul(a, api.Ball{Low: small(n, 0), High: small(n, 0)}, api.MaxBits)
	if e != api.OK {
		t.Fatalf("%d times: error %d", n, e)
	}
	return got
}

func meet(a, b api.Ball) bool {
	return value(a.Low).Cmp(value(b.High)) <= 0 && value(b.Low).Cmp(value(a.High)) <= 0
}

func TestI3PiAndLn2OfInverses(t *testing.T) {
	for bits := 10; bits <= 1000; bits += 33 {
		five, e1 := Atan(5, bits)
		far, e2 := Atan(239, bits)
		sum, e3 := ball.Add(times(t, 16, five), times(t, -4, far), api.MaxBits)
		got, e := Pi(bits)
		if e != api.OK || e1 != api.OK || e2 != api.OK || e3 != api.OK || !meet(sum, got) {
			t.Errorf("Pi by %d bits", bits)
		}
		// Two of Ln2's are beyond what n may be.
		most, e1 := Atanh(26, bits)
		rest := atanh(8749)
		rest.Lsh(rest, 3).Sub(rest, atanh(4801)).Sub(rest, atanh(4801))
		add := new(big.Rat).SetFrac(rest, unit())
		most = times(t, 18, most)
		got, e = Ln2(bits)
		if e != api.OK || e1 != api.OK || add.Add(add, value(most.Low)).Cmp(value(got.High)) > 0 {
			t.Errorf("Ln2 by %d bits", bits)
		}
		if add.Sub(add, value(most.Low)).Add(add, value(most.High)).Cmp(value(got.Low)) < 0 {
			t.Errorf("Ln2 by %d bits", bits)
		}
	}
}

// inside tells whether all of a is in b.
func inside(a, b api.Ball) bool {
	return value(a.Low).Cmp(value(b.Low)) >= 0 && value(a.High).Cmp(value(b.High)) <= 0
}

// calls of this chapter that answer a ball.
func calls() map[string]func(bits int) (api.Ball, api.Errno) {
	return map[string]func(bits int) (api.Ball, api.Errno){
		"Pi":           Pi,
		"Ln2":          Ln2,
		"Atan of 2":    func(bits int) (api.Ball, api.Errno) { return Atan(2, bits) },
		"Atan of 1000": func(bits int) (api.Ball, api.Errno) { return Atan(1000, bits) },
		"Atanh of 2":   func(bits int) (api.Ball, api.Errno) { return Atanh(2, bits) },
		"Atanh of 57":  func(bits int) (api.Ball, api.Errno) { return Atanh(57, bits) },
	}
}

func TestI3MoreBitsLieInFewer(t *testing.T) {
	for name, call := range calls() {
		last, _ := call(10)
		for bits := 11; bits <= 1000; bits++ {
			got, e := call(bits)
			if e != api.OK || !inside(got, last) {
				t.Fatalf("%s by %d bits: error %d, or not in what was told before", name, bits, e)
			}
			last = got
		}
	}
}

func TestP2AndP3NewEachTime(t *testing.T) {
	for name, call := range calls() {
		first, _ := call(300)
		low, high := slices.Clone(first.Low.Mantissa), slices.Clone(first.High.Mantissa)
		spoil(first.Low.Mantissa)
		if !slices.Equal(first.High.Mantissa, high) {
			t.Errorf("%s: both ends share memory", name)
		}
		spoil(first.High.Mantissa)
		again, e := call(300)
		if e != api.OK || !slices.Equal(again.Low.Mantissa, low) || !slices.Equal(again.High.Mantissa, high) {
			t.Errorf("%s: another answer the next time", name)
		}
	}
}

// spoil all the room that a list has.
func spoil(m api.Nat) {
	m = m[:cap(m)]
	for i := range m {
		m[i] = 0xbad
	}
}
