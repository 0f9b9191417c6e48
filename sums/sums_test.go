package sums

import (
	"math/big"
	"testing"

	"slipstick/digits"
	"slipstick/long"
	"slipstick/span"
)

// behind is how many bits what the sums are held against has behind the point.
const behind = 2400

// fixed is a number as a whole number of units of 2 to the power of -behind, without what is behind these.
func fixed(a long.Dyad) *big.Int {
	n := new(big.Int)
	for i := len(a.Mantissa) - 1; i >= 0; i-- {
		n.Lsh(n, 32).Or(n, big.NewInt(int64(a.Mantissa[i])))
	}
	if shift := a.Exp + behind; shift >= 0 {
		n.Lsh(n, uint(shift))
	} else {
		n.Rsh(n, uint(-shift))
	}
	if a.Neg {
		n.Neg(n)
	}
	return n
}

func unit() *big.Int { return new(big.Int).Lsh(big.NewInt(1), behind) }

// added up are terms of which each is the one ahead of it times a ratio, until there is nothing left.
func added(first *big.Int, next func(k int64) (times, over int64)) *big.Int {
	sum, term := new(big.Int).Set(first), new(big.Int).Set(first)
	for k := int64(1); term.Sign() != 0; k++ {
		times, over := next(k)
		term.Mul(term, big.NewInt(times)).Quo(term, big.NewInt(over))
		sum.Add(sum, term)
	}
	return sum
}

// atan of 1 over n by Euler's sum, all of whose terms are above 0.
func atan(n int64) *big.Int {
	first := unit()
	first.Mul(first, big.NewInt(n)).Quo(first, big.NewInt(n*n+1))
	return added(first, func(k int64) (int64, int64) { return 2 * k, (2*k + 1) * (n*n + 1) })
}

// atanh of 1 over n as a half of the logarithm of n + 1 over n - 1: that is the opposite of that of 1 less y, which is 2
// over n + 1.
func atanh(n int64) *big.Int {
	first := unit()
	first.Mul(first, big.NewInt(2)).Quo(first, big.NewInt(n+1))
	sum := added(first, func(k int64) (int64, int64) { return 2 * k, (n + 1) * (k + 1) })
	return sum.Rsh(sum, 1)
}

// held asks whether a span has a number that is known to some thousand units, and is no wider than 2 to the power of wide.
func held(t *testing.T, name string, s span.Span, want *big.Int, wide int) {
	t.Helper()
	little := big.NewInt(1 << 14)
	low, high := fixed(s.Low), fixed(s.High)
	if low.Sub(low, want).Cmp(little) > 0 || high.Sub(want, high).Cmp(little) > 0 {
		t.Fatalf("%s: the number is not in it", name)
	}
	if s.High.Minus(s.Low).Compare(long.Whole(1).Scaled(wide)) > 0 {
		t.Fatalf("%s: wider than 2 to the power of %d", name, wide)
	}
}

func TestInverses(t *testing.T) {
	for _, n := range []int{2, 3, 5, 26, 239, 1000, 4801, 8749, 65535} {
		tan, tanh := atan(int64(n)), atanh(int64(n))
		for work := 40; work < 2300; work += 1 + work/3 {
			held(t, "Atan", Atan(n, work), tan, 14-work)
			held(t, "Atanh", Atanh(n, work), tanh, 14-work)
		}
	}
}

func TestPiAndLn2(t *testing.T) {
	// Twice the angle whose tangent is 1/2, less that whose tangent is 1/7, is an eighth of a circle.
	pi := atan(2)
	pi.Lsh(pi, 1).Sub(pi, atan(7)).Lsh(pi, 2)
	ln2 := added(unit().Rsh(unit(), 1), func(k int64) (int64, int64) { return k, 2 * (k + 1) })
	for work := 40; work < 2300; work += 1 + work/7 {
		held(t, "Pi", Pi(work), pi, 19-work)
		held(t, "Ln2", Ln2(work), ln2, 19-work)
	}
}

func small(n, exp int) long.Dyad {
	return long.New(n < 0, digits.FromWord(uint64(max(n, -n))), exp)
}

// The sum of all powers of u is 1 over 1 less u.
func TestPowersOfOneNumber(t *testing.T) {
	for _, n := range []int{-16, -15, -9, -1, 1, 7, 15, 16} {
		for _, exp := range []int{-5, -20, -300} {
			for _, work := range []int{10, 50, 400} {
				got := Powers(span.Of(small(n, exp)), work, func(int) (int, int) { return 1, 1 })
				whole := long.Whole(1).Minus(small(n, exp))
				least, most := got.Low.Times(whole), got.High.Times(whole)
				if one := long.Whole(1); least.Compare(one) > 0 || most.Compare(one) < 0 {
					t.Errorf("%d times 2 to the power of %d: the sum is not in it", n, exp)
				}
				if !got.Narrow(work - 12) {
					t.Errorf("%d times 2 to the power of %d by %d bits: too wide", n, exp, work)
				}
			}
		}
	}
}

// What is left out lies on one side: the sum does not come to lie beyond 1.
func TestPowersKeepTheirSide(t *testing.T) {
	one := long.Whole(1)
	for _, exp := range []int{-100, -5000, -36000} {
		more := Powers(span.Of(small(3, exp)), 64, func(k int) (int, int) { return 1, k })
		less := Powers(span.Of(small(-3, exp)), 64, func(k int) (int, int) { return 1, k })
		if more.Low.Compare(one) != 0 || more.High.Compare(one) <= 0 || less.High.Compare(one) != 0 || less.Low.Compare(one) >= 0 {
			t.Errorf("3 times 2 to the power of %d: %v, %v", exp, more, less)
		}
	}
	alone := Powers(span.Whole(0), 64, func(k int) (int, int) { return 1, k })
	if alone.Low.Compare(one) != 0 || alone.High.Compare(one) != 0 {
		t.Errorf("0: %v", alone)
	}
}

// A sum of a span has the sums of all of its numbers.
func TestPowersOfASpan(t *testing.T) {
	geometric := func(int) (int, int) { return 1, 1 }
	for _, ends := range [][2]int{{-8, -7}, {-3, 2}, {0, 1}, {6, 8}} {
		got := Powers(span.Span{Low: small(ends[0], -4), High: small(ends[1], -4)}, 40, geometric)
		for n := ends[0]; n <= ends[1]; n++ {
			one := Powers(span.Of(small(n, -4)), 200, geometric)
			if got.Low.Compare(one.Low) > 0 || got.High.Compare(one.High) < 0 {
				t.Errorf("from %d to %d: that of %d is not in it", ends[0], ends[1], n)
			}
		}
	}
}
