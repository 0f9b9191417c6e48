package conv

import (
	"math/big"
	"testing"

	"slipstick/api"
	"slipstick/codec"
	"slipstick/grid"
)

// heldAll tells whether one grid has all numbers of another one: it asks for numbers with each power.
func heldAll(t *testing.T, a, b api.Grid) bool {
	t.Helper()
	radix, one := big.NewInt(int64(a.Radix)), big.NewInt(1)
	end := new(big.Int).Exp(radix, big.NewInt(int64(a.Digits)), nil)
	lead := new(big.Int).Div(end, radix)
	list := []*big.Int{lead, new(big.Int).Sub(end, one)}
	for x := new(big.Int).Set(lead); x.Cmp(end) < 0; x = new(big.Int).Lsh(x, 1) {
		list = append(list, new(big.Int).Add(x, one))
	}
	for k := a.Least; k <= a.Greatest; k++ {
		for _, d := range list {
			if !holds(t, a, natOf(d), k, b) {
				return false
			}
		}
	}
	for d := big.NewInt(1); a.Gradual && d.Cmp(lead) < 0; d = new(big.Int).Lsh(d, 1) {
		if !holds(t, a, natOf(d), a.Least, b) || !holds(t, a, natOf(new(big.Int).Or(d, one)), a.Least, b) {
			return false
		}
	}
	return true
}

func holds(t *testing.T, a api.Grid, d api.Nat, k int, b api.Grid) bool {
	t.Helper()
	x, e := grid.Number(api.Place{Digits: d, Power: k}, a)
	if e != api.OK {
		t.Fatal(e)
	}
	held, e := grid.Holds(x, b)
	if e != api.OK {
		t.Fatal(e)
	}
	return held
}

func TestG3(t *testing.T) {
	for from := first; from <= last; from++ {
		for to := first; to <= last; to++ {
			a, _ := codec.Grid(from)
			b, _ := codec.Grid(to)
			ok, e := Exact(from, to)
			if want := heldAll(t, a, b); ok != want || e != api.OK {
				t.Errorf("%d, %d: %v, error %d, and must be %v", from, to, ok, e, want)
			}
		}
	}
	for _, no := range wrongFormats {
		for format := first - 1; format <= last; format++ {
			if ok, e := Exact(no, format); ok || e != api.ErrKind {
				t.Errorf("%d, %d: %v %d", no, format, ok, e)
			}
			if ok, e := Exact(format, no); ok || e != api.ErrKind {
				t.Errorf("%d, %d: %v %d", format, no, ok, e)
			}
		}
	}
}

// Grids of formats are far from one another; those that differ by one somewhere tell whether the hardest numbers are.
func TestG3HardestNumbersAreEnough(t *testing.T) {
	d := draw(75)
	some := func() api.Grid {
		g := api.Grid{Radix: 2, Digits: 2 + d.below(20), Least: -12 + d.below(8), Gradual: d.below(2) == 1}
		g.Greatest = g.Least + 8 + d.below(8)
		if d.below(2) == 1 {
			g = api.Grid{Radix: 16, Digits: 2 + d.below(4), Least: -4 + d.below(3), Gradual: g.Gradual}
			g.Greatest = g.Least + 4 + d.below(3)
		}
		return g
	}
	yes := 0
	for range 30000 {
		a, b := some(), some()
		want, got := heldAll(t, a, b), true
		for _, x := range hardest(a) {
			held, e := grid.Holds(x, b)
			if e != api.OK {
				t.Fatal(e)
			}
			got = got && held
		}
		if got != want {
			t.Fatalf("%+v in %+v: %v, and must be %v", a, b, got, want)
		}
		if want {
			yes++
		}
	}
	if yes < 1000 {
		t.Errorf("only %d of them held all", yes)
	}
}

// numbers of a format: edges and others that its grid holds; 0 without a sign, for only A keeps that.
func numbers(t *testing.T, d *draw, format, count int) []string {
	t.Helper()
	list := edges(t, format)
	for range count {
		list = append(list, d.pattern(t, format))
	}
	var kept []string
	for _, s := range list {
		v, e := codec.Decode(format, s)
		if e != api.OK {
			t.Fatal(e)
		}
		made, e := codec.Encode(format, v)
		if e == api.OK && (v.Class == api.ClassNumber || v.Class == api.ClassZero && !v.Neg) {
			kept = append(kept, made)
		}
	}
	return kept
}

func TestG4ThereAndBack(t *testing.T) {
	d := draw(76)
	for from := first; from <= last; from++ {
		for to := first; to <= last; to++ {
			if ok, _ := Exact(from, to); !ok {
				continue
			}
			for i, s := range numbers(t, &d, from, 300) {
				way := even + i%5
				there, f, e := Convert(from, s, to, way)
				back, g, h := Convert(to, there, from, even+(i+1)%5)
				if back != s || f != 0 || g != 0 || e != api.OK || h != api.OK {
					t.Fatalf("%x from %d to %d: %x %d, error %d; back: %x %d, error %d", s, from, to, there, f, e, back, g, h)
				}
			}
		}
	}
}

func TestG4ByTheWayOfAnother(t *testing.T) {
	d := draw(77)
	for from := first; from <= last; from++ {
		for over := first; over <= last; over++ {
			if ok, _ := Exact(from, over); !ok {
				continue
			}
			for i, s := range numbers(t, &d, from, 100) {
				to, way := first+i%8, even+i%5
				there, _, _ := Convert(from, s, over, way)
				a, f, e := Convert(over, there, to, way)
				b, g, h := Convert(from, s, to, way)
				if a != b || f != g || e != api.OK || h != api.OK {
					t.Fatalf("%x from %d over %d to %d: %x %d %d, and straight: %x %d %d", s, from, over, to, a, f, e, b, g, h)
				}
			}
		}
	}
}

// In A, what is infinite, no number, or 0 with a sign, goes there and back, too.
func TestG4ThereAndBackInA(t *testing.T) {
	for from := api.FormatSingle; from <= api.FormatExtended; from++ {
		for to := from; to <= api.FormatExtended; to++ {
			for _, s := range edges(t, from) {
				there, f, e := Convert(from, s, to, down)
				back, g, h := Convert(to, there, from, down)
				if back != s || f != 0 || g != 0 || e != api.OK || h != api.OK {
					t.Errorf("%x from %d to %d: %x %d %d; back: %x %d %d", s, from, to, there, f, e, back, g, h)
				}
			}
		}
	}
}

func TestP3SameEachTime(t *testing.T) {
	d := draw(78)
	for range 300 {
		from, to, way := d.below(10), d.below(10), d.below(7)
		s := d.pattern(t, first+d.below(8))
		a, f, e := Convert(from, s, to, way)
		n, g, h := ToInt(from, s, way)
		// Others between change nothing.
		Convert(to, s, from, way)
		FromInt(n+1, to, way)
		b, k, i := Convert(from, s, to, way)
		m, l, j := ToInt(from, s, way)
		if a != b || f != k || e != i || n != m || g != l || h != j {
			t.Fatalf("%x from %d to %d, way %d: not the same again", s, from, to, way)
		}
	}
}
