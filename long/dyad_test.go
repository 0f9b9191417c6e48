package long

import (
	"math/big"
	"testing"

	"slipstick/api"
	"slipstick/digits"
)

// small is n times 2 to the power of exp.
func small(n, exp int) Dyad {
	if n == 0 {
		return New(false, nil, exp)
	}
	return New(n < 0, digits.Number{uint32(max(n, -n))}, exp)
}

// value of a dyad with a mantissa of at most two digits.
func value(a Dyad) *big.Rat {
	n := new(big.Int)
	for i := len(a.Mantissa) - 1; i >= 0; i-- {
		n.Lsh(n, 32).Or(n, big.NewInt(int64(a.Mantissa[i])))
	}
	if a.Neg {
		n.Neg(n)
	}
	one := big.NewInt(1)
	if a.Exp < 0 {
		return new(big.Rat).SetFrac(n, one.Lsh(one, uint(-a.Exp)))
	}
	return new(big.Rat).SetInt(n.Lsh(n, uint(a.Exp)))
}

// few are all numbers with at most so many bits whose bare exponents are from -20 to 20, and 0.
func few(bits int) []Dyad {
	list := []Dyad{{}}
	for n := 1; n < 1<<bits; n += 2 {
		for exp := -20; exp <= 20; exp++ {
			list = append(list, small(n, exp), small(-n, exp))
		}
	}
	return list
}

// cutOf is the greatest of some numbers that is not more than another one (up: the least that is not less), as under
// tells: it answers -1, 0 or 1, as a number is less than the other one, the same, or more.
func cutOf(list []Dyad, up bool, under func(*big.Rat) int) *big.Rat {
	var best *big.Rat
	for _, a := range list {
		x := value(a)
		order := under(x)
		if up && order >= 0 && (best == nil || x.Cmp(best) < 0) || !up && order <= 0 && (best == nil || x.Cmp(best) > 0) {
			best = x
		}
	}
	return best
}

// What stands for a quotient or a root is cut as that is: to so many bits, and to fewer.
func TestEndlessNumbersAreCutAsTheyAre(t *testing.T) {
	for most := 1; most <= 3; most++ {
		list := few(most)
		for bits := most; bits <= most+2; bits++ {
			for x := -12; x <= 12; x++ {
				for y := 1; y <= 11; y++ {
					for _, up := range []bool{false, true} {
						q := new(big.Rat).SetFrac64(int64(8*x), int64(y))
						want := cutOf(list, up, func(r *big.Rat) int { return r.Cmp(q) })
						got := small(-x, 1).Over(small(-y, -2), bits).Cut(most, up)
						if value(got).Cmp(want) != 0 {
							t.Fatalf("%d over %d, %d bits, up %v: %v, and must be %v", x, y, most, up, got, want)
						}
						if x < 0 {
							continue
						}
						square := value(small(x, y-6))
						want = cutOf(list, up, func(r *big.Rat) int {
							if r.Sign() < 0 {
								return -1
							}
							return new(big.Rat).Mul(r, r).Cmp(square)
						})
						got = small(x, y-6).Root(bits).Cut(most, up)
						if value(got).Cmp(want) != 0 {
							t.Fatalf("root of %v, %d bits, up %v: %v, and must be %v", square, most, up, got, want)
						}
					}
				}
			}
		}
	}
}

func TestKeptIsCutAsItWas(t *testing.T) {
	for n := -300; n <= 300; n++ {
		for bits := 1; bits <= 10; bits++ {
			a := small(n, n%7)
			kept := a.Kept(bits)
			if got := kept.Digits().Bits(); got > bits+1 {
				t.Fatalf("%v kept by %d bits has %d", a, bits, got)
			}
			for most := 1; most <= bits; most++ {
				for _, up := range []bool{false, true} {
					if got, want := kept.Cut(most, up), a.Cut(most, up); value(got).Cmp(value(want)) != 0 {
						t.Fatalf("%v kept by %d bits, cut to %d: %v, and must be %v", a, bits, most, got, want)
					}
				}
			}
			if fits := a.Digits().Bits()-a.Digits().Twos() <= bits; fits && value(kept).Cmp(value(a)) != 0 {
				t.Fatalf("%v kept by %d bits: %v", a, bits, kept)
			}
		}
	}
}

func TestShortTellsWhatIsTooLong(t *testing.T) {
	for _, c := range []struct {
		a    Dyad
		want api.Errno
	}{
		{small(1, 20000), api.OK},
		{small(1, 20001), api.ErrRange},
		{small(2, 20000), api.ErrRange},
		{small(4, -20002), api.OK},
		{small(1, -20001), api.ErrRange},
		{small(0, 20001), api.OK},
		{New(true, digits.Number{1}.Shifted(50000), -40000), api.OK},
		{New(true, digits.Number{1}.Shifted(38400).Plus(digits.Number{1}), 20001), api.ErrMany},
	} {
		if got, e := c.a.Short(); e != c.want || e != api.OK && (got.Neg || len(got.Mantissa) > 0 || got.Exp != 0) {
			t.Errorf("%v: %v, error %d, and must be %d", c.a, got, e, c.want)
		}
	}
}

func TestSigns(t *testing.T) {
	for _, n := range []int{-5, -1, 0, 1, 6} {
		a := small(n, -3)
		if a.Opposite().Sign() != -a.Sign() || a.Size().Sign() != a.Sign()*a.Sign() || a.Scaled(4).Compare(small(2*n, 0)) != 0 {
			t.Errorf("%d: %v, %v, %v", n, a.Opposite(), a.Size(), a.Scaled(4))
		}
	}
}

func TestWholeAndTop(t *testing.T) {
	if Whole(0).Sign() != 0 || Whole(1<<40).Compare(small(1, 40)) != 0 {
		t.Errorf("%v, %v", Whole(0), Whole(1<<40))
	}
	for _, c := range []struct {
		a    Dyad
		want int
	}{{Whole(1), 1}, {Whole(7), 3}, {Whole(8), 4}, {small(-1, -1), 0}, {small(5, -10), -7}} {
		if got := c.a.Top(); got != c.want {
			t.Errorf("%v: %d, and must be %d", c.a, got, c.want)
		}
	}
}
