package span

import (
	"math/big"
	"testing"

	"slipstick/api"
	"slipstick/digits"
	"slipstick/long"
)

// draw: numbers for long tests; the same each time.
type draw uint64

func (d *draw) below(n int) int {
	*d = *d*6364136223846793005 + 1442695040888963407
	return int(uint64(*d) >> 33 % uint64(n))
}

// small is n times 2 to the power of exp.
func small(n, exp int) long.Dyad {
	return long.New(n < 0, digits.FromWord(uint64(max(n, -n))), exp)
}

// from n to m, both times 2 to the power of exp.
func from(n, m, exp int) Span { return Span{small(n, exp), small(m, exp)} }

func value(a long.Dyad) *big.Rat {
	n := new(big.Int)
	for i := len(a.Mantissa) - 1; i >= 0; i-- {
		n.Lsh(n, 32).Or(n, big.NewInt(int64(a.Mantissa[i])))
	}
	if a.Neg {
		n.Neg(n)
	}
	one := big.NewInt(1)
	if a.Exp < 0 {
		return new(big.Rat).SetFrac(n, one.Lsh(one, uint(-a.Exp)))
	}
	return new(big.Rat).SetInt(n.Lsh(n, uint(a.Exp)))
}

func has(s Span, x *big.Rat) bool { return value(s.Low).Cmp(x) <= 0 && value(s.High).Cmp(x) >= 0 }

func (d *draw) span() Span {
	return Around(small(d.below(201)-100, d.below(12)-6), small(d.below(201)-100, d.below(12)-6))
}

// inside is a number of a span, of which some lie at its ends.
func (d *draw) inside(s Span) *big.Rat {
	part := big.NewRat(int64(d.below(9)), 8)
	return part.Mul(part, new(big.Rat).Sub(value(s.High), value(s.Low))).Add(part, value(s.Low))
}

func TestWhateverTwoNumbersAre(t *testing.T) {
	d := draw(1)
	for range 3000 {
		s, u, bits := d.span(), d.span(), 1+d.below(12)
		x, y := d.inside(s), d.inside(u)
		held := func(name string, got Span, want *big.Rat) {
			t.Helper()
			if !has(got, want) {
				t.Fatalf("%s of %v and %v by %d bits: %v has not %v", name, s, u, bits, got, want)
			}
		}
		held("Cut", s.Cut(bits), x)
		held("Plus", s.Plus(u), new(big.Rat).Add(x, y))
		held("Minus", s.Minus(u), new(big.Rat).Sub(x, y))
		held("Times", s.Times(u), new(big.Rat).Mul(x, y))
		held("Opposite", s.Opposite(), new(big.Rat).Neg(x))
		held("Scaled", s.Scaled(3), new(big.Rat).Mul(x, big.NewRat(8, 1)))
		held("Part", s.Part(7, 3, bits), new(big.Rat).Mul(x, big.NewRat(7, 3)))
		if !has(u, new(big.Rat)) {
			held("Over", s.Over(u, bits), new(big.Rat).Quo(x, y))
		}
		if s.Low.Sign() >= 0 {
			root := s.Times(s).Root(bits)
			held("Root of what is twice the same", root, x)
		}
	}
}

// What is cut has ends of few bits, and is no wider than it must be.
func TestLeast(t *testing.T) {
	for _, c := range []struct {
		name      string
		got, want Span
	}{
		{"Around", Around(small(3, 0), small(-1, 4), small(5, -1)), Span{small(-16, 0), small(3, 0)}},
		{"Around one", Around(small(3, 0)), from(3, 3, 0)},
		{"Cut", from(-9, 9, 0).Cut(3), from(-10, 10, 0)},
		{"Over", Whole(1).Over(Whole(3), 2), Span{small(1, -2), small(3, -3)}},
		{"Over, below 0", Whole(1).Over(Whole(3).Opposite(), 2), Span{small(-3, -3), small(-1, -2)}},
		{"Part", Whole(1).Part(2, 3, 2), Span{small(1, -1), small(3, -2)}},
		{"Root", Whole(2).Root(2), Span{small(1, 0), small(3, -1)}},
		{"Root of 9", Whole(9).Root(2), Whole(3)},
		{"Times", from(-2, 3, 0).Times(from(-5, 4, 0)), from(-15, 12, 0)},
	} {
		if c.got.Low.Compare(c.want.Low) != 0 || c.got.High.Compare(c.want.High) != 0 {
			t.Errorf("%s: %v, and must be %v", c.name, c.got, c.want)
		}
	}
}

func TestShort(t *testing.T) {
	if got, e := from(-4, 6, 0).Short(); e != api.OK || got.Low.Exp != 2 || got.High.Mantissa[0] != 3 {
		t.Errorf("%v, error %d", got, e)
	}
	for _, s := range []Span{{small(-1, 20001), small(1, 0)}, {small(1, 0), small(1, 20001)}} {
		if got, e := s.Short(); e != api.ErrRange || got.Low.Mantissa != nil || got.High.Mantissa != nil {
			t.Errorf("%v, error %d", got, e)
		}
	}
}

func TestSame(t *testing.T) {
	for _, c := range []struct {
		s    Span
		bits int
		want bool
	}{
		{from(8, 9, 0), 3, true},
		{from(8, 9, 0), 4, false},
		{from(-9, -8, 0), 3, true},
		{from(-9, -8, 0), 4, false},
		{from(7, 8, 0), 1, false},
		{from(5, 5, 0), 40, true},
		{from(0, 0, 0), 1, false},
		{from(0, 1, 0), 1, false},
		{from(-1, 0, 0), 1, false},
		{from(-1, 1, 0), 1, false},
	} {
		if got := c.s.Same(c.bits); got != c.want {
			t.Errorf("%v by %d bits: %v", c.s, c.bits, got)
		}
	}
}

func TestNarrow(t *testing.T) {
	for _, c := range []struct {
		s    Span
		bits int
		want bool
	}{
		{from(8, 9, 0), 3, true},
		{from(8, 9, 0), 4, false},
		{from(-9, -8, 0), 3, true},
		{from(-9, -8, 0), 4, false},
		{from(7, 8, 0), 3, false},
		{from(-8, -7, 0), 3, false},
		{from(5, 5, 0), 900, true},
		{from(0, 1, 0), -9, false},
		{from(-1, 0, 0), -9, false},
		{from(-1, 1, 0), -9, false},
	} {
		if got := c.s.Narrow(c.bits); got != c.want {
			t.Errorf("%v by %d bits: %v", c.s, c.bits, got)
		}
	}
}

func TestGreatest(t *testing.T) {
	for _, c := range []struct {
		s    Span
		want int
	}{{from(-8, 7, 0), 4}, {from(-7, 8, 0), 4}, {from(-9, -8, 0), 4}, {from(7, 7, 0), 3}, {from(0, 1, -9), -8}} {
		if got, some := c.s.Greatest(); got != c.want || !some {
			t.Errorf("%v: %d, %v", c.s, got, some)
		}
	}
	if _, some := from(0, 0, 3).Greatest(); some {
		t.Error("there is something in 0 alone")
	}
}

// Refine asks with more and more bits, and answers the first that is fine.
func TestRefine(t *testing.T) {
	var asked []int
	reckon := func(work int) Span { asked = append(asked, work); return Whole(1).Over(Whole(3), work) }
	got := Refine(5, reckon, func(s Span) bool { return s.Narrow(17) })
	if len(asked) != 3 || asked[0] != 5 || asked[1] != 10 || asked[2] != 20 || !has(got, big.NewRat(1, 3)) || !got.Narrow(17) {
		t.Errorf("asked with %v bits: %v", asked, got)
	}
}
