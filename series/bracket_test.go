package series

import (
	"math"
	"math/big"
	"reflect"
	"slices"
	"testing"

	"slipstick/api"
	"slipstick/dyad"
)

// ones has n digits, with all bits set.
func ones(n int) api.Nat { return slices.Repeat(api.Nat{math.MaxUint32}, n) }

// from n to m, both times 2 to the power of exp.
func from(n, m, exp int) api.Ball { return api.Ball{Low: small(n, exp), High: small(m, exp)} }

// bracketed says by the chapter's own words what Bracket must answer: it tries all n, from bits down.
func bracketed(t *testing.T, a api.Ball, bits int) (int, bool) {
	t.Helper()
	low, high := value(a.Low).Sign(), value(a.High).Sign()
	if low*high <= 0 {
		return 0, false
	}
	for n := bits; n >= 1; n-- {
		x, e := dyad.Cut(a.Low, n, low < 0)
		y, f := dyad.Cut(a.High, n, high < 0)
		if e != api.OK || f != api.OK {
			t.Fatalf("Cut: errors %d and %d", e, f)
		}
		if value(x).Cmp(value(y)) == 0 {
			return n, true
		}
	}
	return 0, false
}

func TestI2BracketOfFew(t *testing.T) {
	for low := -70; low <= 70; low++ {
		for high := low; high <= 70; high++ {
			for _, bits := range []int{1, 2, 5, 9} {
				a := from(low, high, -3)
				want, some := bracketed(t, a, bits)
				if got, ok, e := Bracket(a, bits); got != want || ok != some || e != api.OK {
					t.Fatalf("%v by %d bits: %d, %v, error %d, and must be %d, %v", a, bits, got, ok, e, want, some)
				}
			}
		}
	}
}

func TestI2BracketEdges(t *testing.T) {
	great := api.Dyad{Mantissa: ones(1200), Exp: 20000}
	beside := api.Dyad{Mantissa: append(api.Nat{math.MaxUint32 - 1}, ones(1199)...), Exp: 20000}
	in := func(low, high api.Dyad) api.Ball { return api.Ball{Low: low, High: high} }
	for _, c := range []struct {
		name string
		a    api.Ball
		bits int
		want int
	}{
		{"0 alone", from(0, 0, 0), 4096, 0},
		{"0 of another form", in(api.Dyad{Neg: true, Exp: 7}, api.Dyad{Exp: -7}), 10, 0},
		{"from 0 on", from(0, 1, 0), 10, 0},
		{"up to 0", from(-1, 0, 0), 10, 0},
		{"0 in it", from(-1, 1, 0), 10, 0},
		{"one number", from(5, 5, 3), 4096, 4096},
		{"one number below 0", from(-5, -5, 3), 1, 1},
		{"one number of two forms", in(small(12, 0), small(3, 2)), 77, 77},
		{"up to a power of 2", from(1<<20-1, 1<<20, 0), 4096, 0},
		{"from a power of 2 on", from(1<<20, 1<<20+1, 0), 4096, 20},
		{"from a power of 2 up to the next", from(1, 2, 0), 9, 0},
		{"from a power of 2 till ahead of the next", from(1<<20, 1<<21-1, 0), 4096, 1},
		{"below 0, from a power of 2", from(-1<<20, -1<<20+1, 0), 4096, 0},
		{"below 0, up to a power of 2", from(-1<<20-1, -1<<20, 0), 4096, 20},
		{"as many bits as are asked for", from(1<<20, 1<<20+1, 0), 20, 20},
		{"fewer are asked for", from(1<<20, 1<<20+1, 0), 19, 19},
		{"far apart", in(small(1, -20000), great), 4096, 0},
		{"the greatest", in(great, great), 4096, 4096},
		{"the greatest, and the one beside it", in(beside, great), 4096, 4096},
		{"the least", from(2, 3, -20000), 4096, 1},
		{"the least, below 0", from(-3, -2, -20000), 4096, 1},
		{"greater than the greatest that is bare", from(2, 3, 20000), 4096, 1},
		{"not bare", from(6<<10, 7<<10, -10), 4096, 2},
		{"bits of other digits", in(api.Dyad{Mantissa: api.Nat{0, 0, 5}}, api.Dyad{Mantissa: api.Nat{0, 1, 5}}), 4096, 34},
	} {
		if got, ok, e := Bracket(c.a, c.bits); got != c.want || ok != (c.want > 0) || e != api.OK {
			t.Errorf("%s: %d, %v, error %d, and must be %d", c.name, got, ok, e, c.want)
		}
	}
}

// The more narrow a ball is, the more bits are told.
func TestI2BracketOfBalls(t *testing.T) {
	for bits := 10; bits <= 1000; bits += 11 {
		a, _ := Pi(bits)
		want, some := bracketed(t, a, 1200)
		if got, ok, e := Bracket(a, 1200); got != want || ok != some || e != api.OK || got < bits-20 {
			t.Errorf("Pi by %d bits: %d, %v, error %d, and must be %d", bits, got, ok, e, want)
		}
	}
}

func TestI2BracketErrors(t *testing.T) {
	form, many, far := api.Dyad{Mantissa: api.Nat{1, 0}}, api.Dyad{Neg: true, Mantissa: ones(1201)}, small(1, 20001)
	for want, list := range map[api.Errno][]api.Ball{
		api.ErrForm:  {{Low: form}, {High: form}, {Low: form, High: far}},
		api.ErrMany:  {{Low: many}, {Low: many, High: form}, {High: many}},
		api.ErrRange: {{Low: small(1, -20001)}, {Low: far, High: form}, {High: small(0, -20001)}},
		api.ErrState: {from(1, 0, 0), from(-1, -2, 7), from(3, 1, 0)},
	} {
		for _, a := range list {
			for _, bits := range []int{math.MinInt, 0, 1, 4096, 4097} {
				if n, ok, e := Bracket(a, bits); n != 0 || ok || e != want {
					t.Errorf("%v by %d bits: %d, %v, error %d, and must be %d", a, bits, n, ok, e, want)
				}
			}
		}
	}
	for _, a := range []api.Ball{from(1, 1, 0), from(-1, 1, 0), {}} {
		for _, bits := range []int{math.MinInt, -1, 0, 4097, math.MaxInt} {
			if n, ok, e := Bracket(a, bits); n != 0 || ok || e != api.ErrRange {
				t.Errorf("%v by %d bits: %d, %v, error %d", a, bits, n, ok, e)
			}
		}
	}
}

func TestP2BracketOnlyReads(t *testing.T) {
	room := func(m ...uint32) api.Nat { return append(m, 77, 78)[:len(m)] }
	a := api.Ball{Low: api.Dyad{Mantissa: room(2, 9), Exp: 3}, High: api.Dyad{Mantissa: room(4, 9), Exp: 3}}
	for range 2 {
		if n, ok, e := Bracket(a, 50); n != 33 || !ok || e != api.OK {
			t.Errorf("%d, %v, error %d", n, ok, e)
		}
	}
	if !reflect.DeepEqual(a.Low.Mantissa[:4], api.Nat{2, 9, 77, 78}) || !reflect.DeepEqual(a.High.Mantissa[:4], api.Nat{4, 9, 77, 78}) {
		t.Errorf("what was handed in was changed: %v", a)
	}
}

// All numbers of a ball have the bits that Bracket tells, and not one more.
func TestI2AllNumbersHaveThem(t *testing.T) {
	a := from(1000, 1007, -4)
	n, _, _ := Bracket(a, 50)
	want, _ := dyad.Cut(a.Low, n, false)
	for x := 1000; x <= 1007; x++ {
		if got, _ := dyad.Cut(small(x, -4), n, false); value(got).Cmp(value(want)) != 0 {
			t.Errorf("%d by %d bits: %v", x, n, got)
		}
	}
	low, _ := dyad.Cut(a.Low, n+1, false)
	high, _ := dyad.Cut(a.High, n+1, false)
	if value(low).Cmp(value(high)) == 0 || n != 7 || value(want).Cmp(big.NewRat(1000, 16)) != 0 {
		t.Errorf("%d bits, %v", n, want)
	}
}
