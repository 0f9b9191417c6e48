package grid

import (
	"math"
	"math/big"
	"slices"
	"testing"

	"slipstick/api"
	"slipstick/dyad"
)

// draw: numbers for long tests; the same each time.
type draw uint64

func (d *draw) below(n int) int {
	*d = *d*6364136223846793005 + 1442695040888963407
	return int(uint64(*d) >> 33 % uint64(n))
}

func number(neg bool, mantissa api.Nat, exp int) api.Dyad {
	return api.Dyad{Neg: neg, Mantissa: mantissa, Exp: exp}
}

// small is n times 2 to the power of exp.
func small(n, exp int) api.Dyad {
	if n == 0 {
		return number(false, nil, exp)
	}
	return number(n < 0, api.Nat{uint32(max(n, -n))}, exp)
}

// ratio of n over m, times 2 to the power of exp.
func ratio(n, m, exp int) api.Ratio {
	q := api.Ratio{Neg: n < 0, Den: api.Nat{uint32(m)}, Exp: exp}
	if n != 0 {
		q.Num = api.Nat{uint32(max(n, -n))}
	}
	return q
}

// ones has n digits, with all bits set.
func ones(n int) api.Nat { return slices.Repeat(api.Nat{math.MaxUint32}, n) }

func powerOf(radix, n int) *big.Rat {
	p := new(big.Int).Exp(big.NewInt(int64(radix)), big.NewInt(int64(max(n, -n))), nil)
	if n < 0 {
		return new(big.Rat).SetFrac(big.NewInt(1), p)
	}
	return new(big.Rat).SetInt(p)
}

func toBig(a api.Nat) *big.Int {
	b := make([]byte, 0, 4*len(a))
	for i := len(a) - 1; i >= 0; i-- {
		b = append(b, byte(a[i]>>24), byte(a[i]>>16), byte(a[i]>>8), byte(a[i]))
	}
	return new(big.Int).SetBytes(b)
}

func signed(neg bool, r *big.Rat) *big.Rat {
	if neg {
		r.Neg(r)
	}
	return r
}

func value(a api.Dyad) *big.Rat {
	r := new(big.Rat).SetInt(toBig(a.Mantissa))
	return signed(a.Neg, r.Mul(r, powerOf(2, a.Exp)))
}

func valueOf(q api.Ratio) *big.Rat {
	r := new(big.Rat).SetFrac(toBig(q.Num), toBig(q.Den))
	return signed(q.Neg, r.Mul(r, powerOf(2, q.Exp)))
}

func bare(a api.Dyad) bool {
	if len(a.Mantissa) == 0 {
		return !a.Neg && a.Exp == 0
	}
	return dyad.Check(a) == api.OK && a.Mantissa[0]%2 == 1
}

func zero(a api.Dyad) bool { return !a.Neg && len(a.Mantissa) == 0 && a.Exp == 0 }

func samePlace(a, b api.Place) bool {
	return a.Neg == b.Neg && slices.Equal(a.Digits, b.Digits) && a.Power == b.Power && a.Exact == b.Exact && a.Over == b.Over && a.Under == b.Under
}

// grids: both radices, gradual or not, with one power or some, with one digit or more.
func grids() []api.Grid {
	var list []api.Grid
	for _, gradual := range []bool{false, true} {
		list = append(list,
			api.Grid{Radix: 2, Digits: 3, Least: -4, Greatest: 2, Gradual: gradual},
			api.Grid{Radix: 2, Digits: 1, Least: -3, Greatest: 3, Gradual: gradual},
			api.Grid{Radix: 2, Digits: 5, Least: 1, Greatest: 1, Gradual: gradual},
			api.Grid{Radix: 16, Digits: 2, Least: -2, Greatest: 0, Gradual: gradual},
			api.Grid{Radix: 16, Digits: 1, Least: -1, Greatest: 1, Gradual: gradual},
			api.Grid{Radix: 16, Digits: 1, Least: 0, Greatest: 0, Gradual: gradual})
	}
	return list
}

// far are grids at the bounds that the chapter names.
func far() []api.Grid {
	return []api.Grid{
		{Radix: 2, Digits: 120, Least: -17000, Greatest: 17000, Gradual: true},
		{Radix: 2, Digits: 53, Least: -17000, Greatest: -17000},
		{Radix: 2, Digits: 24, Least: 17000, Greatest: 17000, Gradual: true},
		{Radix: 16, Digits: 120, Least: -4000, Greatest: 4000},
		{Radix: 16, Digits: 14, Least: 4000, Greatest: 4000, Gradual: true},
	}
}

// wrongGrids, each with what is wrong.
func wrongGrids() map[api.Errno][]api.Grid {
	return map[api.Errno][]api.Grid{
		api.ErrKind: {{}, {Radix: 10, Digits: 1}, {Radix: -2, Digits: 1}, {Radix: 4, Digits: 121}, {Radix: math.MaxInt, Least: 1}},
		api.ErrRange: {{Radix: 2}, {Radix: 2, Digits: -1}, {Radix: 16, Digits: 121}, {Radix: 2, Digits: math.MaxInt},
			{Radix: 2, Digits: 1, Least: -17001}, {Radix: 2, Digits: 1, Greatest: 17001}, {Radix: 2, Digits: 1, Least: 17001, Greatest: 17001},
			{Radix: 2, Digits: 1, Least: -17002, Greatest: -17001}, {Radix: 2, Digits: 1, Least: 1}, {Radix: 16, Digits: 1, Greatest: -1},
			{Radix: 16, Digits: 1, Least: -4001}, {Radix: 16, Digits: 1, Greatest: 4001}, {Radix: 16, Digits: 1, Least: 4001, Greatest: 4001},
			{Radix: 2, Digits: 1, Least: math.MinInt, Greatest: math.MaxInt}},
	}
}

func TestD1Check(t *testing.T) {
	for want, list := range wrongGrids() {
		for _, g := range list {
			if e := Check(g); e != want {
				t.Errorf("%v: error %d, and must be %d", g, e, want)
			}
		}
	}
	for _, g := range append(grids(), far()...) {
		if e := Check(g); e != api.OK {
			t.Errorf("%v: error %d", g, e)
		}
	}
}

// Of what is wrong with what Round is handed, that is told which D1 names first.
func TestD1OrderOfErrors(t *testing.T) {
	fine := grids()[0]
	form, many := api.Nat{1, 0}, ones(api.MaxDigits+1)
	for _, c := range []struct {
		q    api.Ratio
		g    api.Grid
		way  int
		want api.Errno
	}{
		{api.Ratio{Num: form, Den: many, Exp: 20001}, api.Grid{}, 0, api.ErrForm},
		{api.Ratio{Num: many, Den: form, Exp: 20001}, api.Grid{}, 0, api.ErrMany},
		{api.Ratio{Num: api.Nat{1}, Den: form, Exp: 20001}, api.Grid{}, 0, api.ErrForm},
		{api.Ratio{Den: many, Exp: 20001}, api.Grid{}, 0, api.ErrMany},
		{api.Ratio{Num: api.Nat{1}}, api.Grid{}, 0, api.ErrRange},
		{api.Ratio{}, api.Grid{}, 0, api.ErrRange},
		{ratio(1, 1, 20001), api.Grid{}, 0, api.ErrRange},
		{ratio(0, 1, -20001), api.Grid{}, 0, api.ErrRange},
		{ratio(1, 1, math.MinInt), fine, 1, api.ErrRange},
		{ratio(1, 1, 0), api.Grid{}, 0, api.ErrKind},
		{ratio(1, 1, 0), api.Grid{Radix: 2}, 0, api.ErrRange},
		{ratio(1, 1, 0), fine, 0, api.ErrKind},
		{ratio(0, 1, 0), fine, 6, api.ErrKind},
		{ratio(1, 1, 0), fine, -1, api.ErrKind},
		{ratio(1, 1, 0), fine, math.MaxInt, api.ErrKind},
	} {
		if p, e := Round(c.q, c.g, c.way); e != c.want || !samePlace(p, api.Place{}) {
			t.Errorf("%v by %d: %v, error %d, and must be error %d alone", c.g, c.way, p, e, c.want)
		}
	}
	for want, list := range wrongGrids() {
		for _, g := range list {
			if p, e := Round(ratio(0, 1, 0), g, 9); e != want || !samePlace(p, api.Place{}) {
				t.Errorf("%v: %v, error %d, and must be %d", g, p, e, want)
			}
		}
	}
}

// expected is what D2 says, word for word, of a ratio that is not 0.
func expected(q api.Ratio, g api.Grid, way int) api.Place {
	r := valueOf(q)
	r.Abs(r)
	power := 0
	for r.Cmp(powerOf(g.Radix, power+g.Digits)) >= 0 {
		power++
	}
	for r.Cmp(powerOf(g.Radix, power+g.Digits-1)) < 0 {
		power--
	}
	p := api.Place{Neg: q.Neg, Under: power < g.Least}
	if p.Under && g.Gradual {
		power = g.Least
	}
	d := r.Quo(r, powerOf(g.Radix, power))
	whole := new(big.Int).Quo(d.Num(), d.Denom())
	rest := new(big.Rat).Sub(d, new(big.Rat).SetInt(whole))
	p.Exact = rest.Sign() == 0
	half := rest.Cmp(big.NewRat(1, 2))
	away := way == api.RoundEven && (half > 0 || half == 0 && whole.Bit(0) == 1) || way == api.RoundAway && half >= 0 ||
		way == api.RoundUp && !q.Neg || way == api.RoundDown && q.Neg
	if away && !p.Exact {
		whole.Add(whole, big.NewInt(1))
	}
	if new(big.Rat).SetInt(whole).Cmp(powerOf(g.Radix, g.Digits)) == 0 {
		whole, power = new(big.Int).Set(powerOf(g.Radix, g.Digits-1).Num()), power+1
	}
	p.Over = power > g.Greatest
	if whole.Sign() > 0 {
		p.Power = power
	}
	for digit := new(big.Int); whole.Sign() > 0; whole.Rsh(whole, 32) {
		p.Digits = append(p.Digits, uint32(digit.And(whole, big.NewInt(math.MaxUint32)).Uint64()))
	}
	return p
}

func rounded(t *testing.T, q api.Ratio, g api.Grid, way int) api.Place {
	t.Helper()
	p, e := Round(q, g, way)
	if want := expected(q, g, way); e != api.OK || !samePlace(p, want) {
		t.Fatalf("%v in %v by %d: %v, error %d, and must be %v", q, g, way, p, e, want)
	}
	return p
}

// All that lies on a grid's numbers, on halves, on quarters, and a little beside these.
func TestD2RoundNearEverything(t *testing.T) {
	for _, g := range grids() {
		for n := -700; n <= 700; n++ {
			for _, q := range []api.Ratio{ratio(n, 1, -6), ratio(3*n, 3, -9), ratio(n, 7, -2), ratio(255*n, 256, -5), ratio(257*n, 256, -5)} {
				if n == 0 {
					continue
				}
				for way := api.RoundEven; way <= api.RoundDown; way++ {
					rounded(t, q, g, way)
				}
			}
		}
	}
}

func TestD2Zero(t *testing.T) {
	for _, g := range append(grids(), far()...) {
		for _, q := range []api.Ratio{ratio(0, 1, 0), {Neg: true, Den: api.Nat{3}, Exp: 20000}, {Num: api.Nat{}, Den: ones(1200), Exp: -20000}} {
			for way := api.RoundEven; way <= api.RoundDown; way++ {
				if p, e := Round(q, g, way); e != api.OK || !samePlace(p, api.Place{Exact: true}) {
					t.Fatalf("0 in %v: %v, error %d", g, p, e)
				}
			}
		}
	}
}

func TestD2Edges(t *testing.T) {
	gradual, flat := api.Grid{Radix: 2, Digits: 3, Least: -4, Greatest: 2, Gradual: true}, api.Grid{Radix: 2, Digits: 3, Least: -4, Greatest: 2}
	hex := api.Grid{Radix: 16, Digits: 2, Least: -3, Greatest: 1, Gradual: true}
	type place = api.Place
	for _, c := range []struct {
		what string
		q    api.Ratio
		g    api.Grid
		way  int
		want place
	}{
		{"the example", ratio(9, 1, 0), gradual, api.RoundEven, place{Digits: api.Nat{4}, Power: 1}},
		{"a half, to the even one above", ratio(11, 1, 0), gradual, api.RoundEven, place{Digits: api.Nat{6}, Power: 1}},
		{"a half, away", ratio(9, 1, 0), gradual, api.RoundAway, place{Digits: api.Nat{5}, Power: 1}},
		{"a half, away, below 0", ratio(-9, 1, 0), gradual, api.RoundAway, place{Neg: true, Digits: api.Nat{5}, Power: 1}},
		{"up, below 0", ratio(-9, 1, 0), gradual, api.RoundUp, place{Neg: true, Digits: api.Nat{4}, Power: 1}},
		{"down, below 0", ratio(-9, 1, 0), gradual, api.RoundDown, place{Neg: true, Digits: api.Nat{5}, Power: 1}},
		{"one digit more", ratio(15, 1, 0), gradual, api.RoundEven, place{Digits: api.Nat{4}, Power: 2}},
		{"the greatest", ratio(28, 1, 0), gradual, api.RoundEven, place{Digits: api.Nat{7}, Power: 2, Exact: true}},
		{"not quite beyond it", ratio(29, 1, 0), gradual, api.RoundEven, place{Digits: api.Nat{7}, Power: 2}},
		{"beyond it by one digit more", ratio(30, 1, 0), gradual, api.RoundEven, place{Digits: api.Nat{4}, Power: 3, Over: true}},
		{"beyond it, to 0", ratio(31, 1, 0), gradual, api.RoundZero, place{Digits: api.Nat{7}, Power: 2}},
		{"beyond it from the outset", ratio(32, 1, 0), gradual, api.RoundZero, place{Digits: api.Nat{4}, Power: 3, Exact: true, Over: true}},
		{"far beyond it", ratio(1, 3, 20000), gradual, api.RoundZero, place{Digits: api.Nat{5}, Power: 19996, Over: true}},
		{"the least with all digits", ratio(4, 1, -4), gradual, api.RoundEven, place{Digits: api.Nat{4}, Power: -4, Exact: true}},
		{"up to that", ratio(7, 1, -5), gradual, api.RoundEven, place{Digits: api.Nat{4}, Power: -4, Under: true}},
		{"fewer digits", ratio(3, 1, -4), gradual, api.RoundEven, place{Digits: api.Nat{3}, Power: -4, Exact: true, Under: true}},
		{"all digits below Least", ratio(3, 1, -4), flat, api.RoundEven, place{Digits: api.Nat{6}, Power: -5, Exact: true, Under: true}},
		{"up to Least", ratio(15, 1, -6), flat, api.RoundUp, place{Digits: api.Nat{4}, Power: -4, Under: true}},
		{"half of the least, to the even one", ratio(1, 1, -5), gradual, api.RoundEven, place{Under: true}},
		{"half of the least, away", ratio(-1, 1, -5), gradual, api.RoundAway, place{Neg: true, Digits: api.Nat{1}, Power: -4, Under: true}},
		{"more than half of the least", ratio(5, 1, -7), gradual, api.RoundEven, place{Digits: api.Nat{1}, Power: -4, Under: true}},
		{"to 0 from below", ratio(-1, 7, -20000), gradual, api.RoundUp, place{Neg: true, Under: true}},
		{"next to 0, down", ratio(-1, 7, -20000), gradual, api.RoundDown, place{Neg: true, Digits: api.Nat{1}, Power: -4, Under: true}},
		{"next to 0, without fewer digits", ratio(1, 1, -20000), flat, api.RoundUp, place{Digits: api.Nat{4}, Power: -20002, Exact: true, Under: true}},
		{"16 to its power", ratio(4095, 1, -4), hex, api.RoundEven, place{Digits: api.Nat{16}, Power: 1}},
		{"16 to its power, from below", ratio(4095, 1, -4), hex, api.RoundZero, place{Digits: api.Nat{255}, Power: 0}},
		{"a leading digit of 16", ratio(1, 1, 4), hex, api.RoundEven, place{Digits: api.Nat{16}, Power: 0, Exact: true}},
		{"a leading digit with one bit", ratio(33, 1, -1), hex, api.RoundEven, place{Digits: api.Nat{16}, Power: 0}},
		{"fewer digits of 16", ratio(3, 1, -12), hex, api.RoundEven, place{Digits: api.Nat{3}, Power: -3, Exact: true, Under: true}},
	} {
		p, e := Round(c.q, c.g, c.way)
		if e != api.OK || !samePlace(p, c.want) {
			t.Errorf("%s: %v, error %d, and must be %v", c.what, p, e, c.want)
		}
	}
}

func (d *draw) nat(n int) api.Nat {
	a := make(api.Nat, n)
	for i := range a {
		a[i] = []uint32{0, 1, 1 << 31, 1<<32 - 1, uint32(d.below(1 << 31))}[d.below(5)]
	}
	a[n-1] |= 1 << d.below(32)
	return a
}

func TestD2FarAndLong(t *testing.T) {
	d := draw(5)
	lengths := []int{1, 2, 5, 40}
	for range 300 {
		q := api.Ratio{Neg: d.below(2) == 0, Num: d.nat(lengths[d.below(4)]), Den: d.nat(lengths[d.below(4)]), Exp: d.below(1000) - 500}
		g := api.Grid{Radix: []int{2, 16}[d.below(2)], Digits: 1 + d.below(120), Least: d.below(400) - 300, Gradual: d.below(2) == 0}
		g.Greatest = g.Least + d.below(300)
		rounded(t, q, g, 1+d.below(5))
	}
	for _, g := range far() {
		for way := api.RoundEven; way <= api.RoundDown; way++ {
			for _, q := range []api.Ratio{{Num: ones(1200), Den: api.Nat{3}, Exp: 20000}, {Neg: true, Num: api.Nat{1}, Den: ones(1200), Exp: -20000}} {
				p, e := Round(q, g, way)
				if e != api.OK {
					t.Fatalf("%v: error %d", g, e)
				}
				between(t, q, g, p, way)
			}
		}
	}
}

// between asks of a place that is not 0 that it is less than one D away from the ratio, on the side that way tells.
func between(t *testing.T, q api.Ratio, g api.Grid, p api.Place, way int) {
	t.Helper()
	bits := 1
	if g.Radix == 16 {
		bits = 4
	}
	exact, d := valueOf(q), new(big.Rat).SetInt(toBig(p.Digits))
	exact.Mul(exact.Abs(exact), powerOf(2, -bits*p.Power))
	away := way == api.RoundUp && !q.Neg || way == api.RoundDown && q.Neg
	toward := way == api.RoundZero || way == api.RoundUp && q.Neg || way == api.RoundDown && !q.Neg
	difference := new(big.Rat).Sub(d, exact)
	if len(p.Digits) > 0 && new(big.Rat).Abs(difference).Cmp(big.NewRat(1, 1)) >= 0 || away && difference.Sign() < 0 || toward && difference.Sign() > 0 {
		t.Fatalf("%v by %d: %v", g, way, p)
	}
}

// all numbers of a grid, and 0, in their order.
func all(g api.Grid) []*big.Rat {
	list := []*big.Rat{new(big.Rat)}
	whole := powerOf(g.Radix, g.Digits-1).Num().Int64()
	for power := g.Least; power <= g.Greatest; power++ {
		for d := int64(1); d < whole*int64(g.Radix); d++ {
			if d >= whole || g.Gradual && power == g.Least {
				x := new(big.Rat).Mul(big.NewRat(d, 1), powerOf(g.Radix, power))
				list = append(list, x, new(big.Rat).Neg(x))
			}
		}
	}
	slices.SortFunc(list, (*big.Rat).Cmp)
	return list
}

// toDyad of a number with a power of 2 below its line, not bare on purpose.
func toDyad(x *big.Rat) api.Dyad {
	if x.Sign() == 0 {
		return number(true, nil, 9)
	}
	m := new(big.Int).Lsh(new(big.Int).Abs(x.Num()), 2)
	return number(x.Sign() < 0, api.Nat{uint32(m.Uint64())}, 1-x.Denom().BitLen()-2)
}

func TestD3HoldsAndStep(t *testing.T) {
	for _, g := range grids() {
		list := all(g)
		for i, x := range list {
			a := toDyad(x)
			if held, e := Holds(a, g); !held || e != api.OK {
				t.Fatalf("%v in %v: %v, error %d", x, g, held, e)
			}
			for _, up := range []bool{false, true} {
				j := i - 1
				if up {
					j = i + 1
				}
				got, e := Step(a, g, up)
				if j < 0 || j == len(list) {
					if e != api.ErrNone || !zero(got) {
						t.Fatalf("beyond the last of %v: %v, error %d", g, got, e)
					}
				} else if e != api.OK || !bare(got) || value(got).Cmp(list[j]) != 0 {
					t.Fatalf("from %v in %v, up %v: %v, error %d, and must be %v", x, g, up, got, e, list[j])
				}
			}
		}
		for n := -2000; n <= 2000; n++ {
			for _, a := range []api.Dyad{small(n, -9), small(n, -4), small(n, 3)} {
				_, want := slices.BinarySearchFunc(list, value(a), (*big.Rat).Cmp)
				if held, e := Holds(a, g); held != want || e != api.OK {
					t.Fatalf("%v in %v: %v, error %d", a, g, held, e)
				}
				if want {
					continue
				}
				if got, e := Step(a, g, n%2 == 0); e != api.ErrState || !zero(got) {
					t.Fatalf("%v, that %v has not: %v, error %d", a, g, got, e)
				}
			}
		}
	}
}

func TestD3StepAtTheBounds(t *testing.T) {
	great := api.Grid{Radix: 2, Digits: 120, Least: -17000, Greatest: 17000, Gradual: true}
	least, e := Step(api.Dyad{}, great, false)
	if e != api.OK || value(least).Cmp(value(small(-1, -17000))) != 0 {
		t.Errorf("below 0: %v, error %d", least, e)
	}
	back, e := Step(least, great, true)
	if e != api.OK || !zero(back) {
		t.Errorf("and back: %v, error %d", back, e)
	}
	last := number(false, api.Nat{math.MaxUint32, math.MaxUint32, math.MaxUint32, 1<<24 - 1}, 17000)
	if got, e := Step(last, great, true); e != api.ErrNone || !zero(got) {
		t.Errorf("above the last: %v, error %d", got, e)
	}
	got, e := Step(last, great, false)
	if e != api.OK || value(got).Cmp(new(big.Rat).Sub(value(last), value(small(1, 17000)))) != 0 {
		t.Errorf("below the last: %v, error %d", got, e)
	}
	hex := api.Grid{Radix: 16, Digits: 120, Least: -4000, Greatest: 4000}
	got, e = Step(api.Dyad{}, hex, true)
	if e != api.OK || value(got).Cmp(value(small(1, -16000+4*119))) != 0 {
		t.Errorf("above 0: %v, error %d", got, e)
	}
	for _, x := range []api.Dyad{small(1, 20000), small(1, -20000), number(true, ones(1200), 20000), number(true, ones(1200), -20000)} {
		for _, g := range append(far(), grids()...) {
			if held, e := Holds(x, g); held || e != api.OK {
				t.Errorf("%v held %v, error %d", g, held, e)
			}
		}
	}
}

func TestD3WrongIsToldFirst(t *testing.T) {
	wrongs := map[api.Errno]api.Dyad{api.ErrForm: number(true, api.Nat{1, 0}, 20001), api.ErrMany: number(false, ones(1201), 20001), api.ErrRange: small(0, 20001)}
	check := func(x api.Dyad, g api.Grid, want api.Errno) {
		t.Helper()
		if held, e := Holds(x, g); held || e != want {
			t.Errorf("Holds: %v, error %d, and must be %d", held, e, want)
		}
		for _, up := range []bool{false, true} {
			if got, e := Step(x, g, up); e != want || !zero(got) {
				t.Errorf("Step: %v, error %d, and must be %d", got, e, want)
			}
		}
	}
	for want, x := range wrongs {
		check(x, grids()[0], want)
		check(x, api.Grid{}, want)
	}
	for want, list := range wrongGrids() {
		for _, g := range list {
			check(small(3, 5), g, want)
			check(api.Dyad{}, g, want)
		}
	}
}

func TestD3Number(t *testing.T) {
	two, hex := grids()[0], grids()[3]
	type place = api.Place
	for _, c := range []struct {
		what string
		p    place
		g    api.Grid
		want api.Dyad
		e    api.Errno
	}{
		{"6 times 2", place{Digits: api.Nat{6}, Power: 1}, two, small(3, 2), api.OK},
		{"6 times 16, below 0", place{Neg: true, Digits: api.Nat{6}, Power: 1}, hex, small(-3, 5), api.OK},
		{"over a power of 16", place{Digits: api.Nat{5}, Power: -2}, hex, small(5, -8), api.OK},
		{"what is not in the grid", place{Digits: api.Nat{0, 0, 3}, Power: 900, Over: true}, two, small(3, 964), api.OK},
		{"0", place{Neg: true, Power: -20000, Under: true}, hex, api.Dyad{}, api.OK},
		{"the greatest power", place{Digits: api.Nat{1}, Power: 20000}, two, small(1, 20000), api.OK},
		{"beyond it if bare", place{Digits: api.Nat{2}, Power: 20000}, two, api.Dyad{}, api.ErrRange},
		{"of 16", place{Digits: api.Nat{1}, Power: 5000}, hex, small(1, 20000), api.OK},
		{"of 16, beyond", place{Digits: api.Nat{1}, Power: 5001}, hex, api.Dyad{}, api.ErrRange},
		{"of 16, below", place{Digits: api.Nat{1}, Power: -5001}, hex, api.Dyad{}, api.ErrRange},
		{"of 16, not below if bare", place{Digits: api.Nat{16}, Power: -5001}, hex, small(1, -20000), api.OK},
		{"a power that may not be", place{Digits: api.Nat{1}, Power: 20001}, two, api.Dyad{}, api.ErrRange},
		{"a power that may not be, of 0", place{Power: -20001}, two, api.Dyad{}, api.ErrRange},
		{"the least number there is", place{Digits: api.Nat{1}, Power: math.MinInt}, hex, api.Dyad{}, api.ErrRange},
		{"a nought ahead", place{Digits: api.Nat{1, 0}, Power: 20001}, api.Grid{}, api.Dyad{}, api.ErrForm},
		{"too long", place{Digits: ones(1201), Power: 20001}, api.Grid{}, api.Dyad{}, api.ErrMany},
		{"no grid", place{Digits: api.Nat{1}, Power: 20001}, api.Grid{}, api.Dyad{}, api.ErrKind},
		{"a wrong grid", place{Digits: api.Nat{1}}, api.Grid{Radix: 2}, api.Dyad{}, api.ErrRange},
		{"the longest", place{Digits: ones(1200)}, two, number(false, ones(1200), 0), api.OK},
	} {
		x, e := Number(c.p, c.g)
		if e != c.e || x.Neg != c.want.Neg || x.Exp != c.want.Exp || !slices.Equal(x.Mantissa, c.want.Mantissa) {
			t.Errorf("%s: %v, error %d, and must be %v, error %d", c.what, x, e, c.want, c.e)
		}
	}
}

// ranked is a number for each ratio that was rounded: what is Over counts as it stands.
func ranked(t *testing.T, q api.Ratio, g api.Grid, way int) *big.Rat {
	t.Helper()
	p, e := Round(q, g, way)
	if e != api.OK {
		t.Fatalf("%v in %v: error %d", q, g, e)
	}
	x, e := Number(p, g)
	if e != api.OK {
		t.Fatalf("%v of %v: error %d", p, g, e)
	}
	return value(x)
}

func TestD4DownUpAndNearest(t *testing.T) {
	for _, g := range grids() {
		list := all(g)
		greatest := list[len(list)-1]
		last := map[int]*big.Rat{}
		for n := -900; n <= 900; n++ {
			q := ratio(n, 3, -4)
			exact := valueOf(q)
			low, high := ranked(t, q, g, api.RoundDown), ranked(t, q, g, api.RoundUp)
			if low.Cmp(exact) > 0 || high.Cmp(exact) < 0 {
				t.Fatalf("%v lies not between %v and %v", exact, low, high)
			}
			i, found := slices.BinarySearchFunc(list, exact, (*big.Rat).Cmp)
			inside := new(big.Rat).Abs(exact).Cmp(greatest) <= 0
			if found && (low.Cmp(exact) != 0 || high.Cmp(exact) != 0) {
				t.Fatalf("%v is in %v, and was rounded to %v and %v", exact, g, low, high)
			}
			if inside && g.Gradual && !found && (low.Cmp(list[i-1]) != 0 || high.Cmp(list[i]) != 0) {
				t.Fatalf("%v in %v: %v and %v, with something between", exact, g, low, high)
			}
			for way := api.RoundEven; way <= api.RoundDown; way++ {
				x := ranked(t, q, g, way)
				if x.Cmp(low) != 0 && x.Cmp(high) != 0 {
					t.Fatalf("%v in %v by %d: %v, and neither %v nor %v", exact, g, way, x, low, high)
				}
				if last[way] != nil && x.Cmp(last[way]) < 0 {
					t.Fatalf("%v in %v by %d: %v, and less than what comes of less", exact, g, way, x)
				}
				last[way] = x
			}
		}
	}
}

func TestP1WhateverIsHandedIn(t *testing.T) {
	numbers := []api.Nat{nil, {}, {0}, {1}, {5, 0}, ones(1200), ones(1201)}
	all := append(grids(), far()...)
	for _, list := range wrongGrids() {
		all = append(all, list...)
	}
	for _, g := range all {
		for _, num := range numbers {
			for _, exp := range []int{math.MinInt, -20000, 0, 20000, math.MaxInt} {
				for _, den := range numbers {
					if p, e := Round(api.Ratio{Num: num, Den: den, Exp: exp}, g, 1+len(den)%5); e != api.OK && !samePlace(p, api.Place{}) {
						t.Fatalf("%v beside error %d", p, e)
					}
				}
				if x, e := Number(api.Place{Digits: num, Power: exp}, g); e != api.OK && !zero(x) {
					t.Fatalf("%v beside error %d", x, e)
				}
				if held, e := Holds(number(true, num, exp), g); e != api.OK && held {
					t.Fatalf("held beside error %d", e)
				}
				if x, e := Step(number(true, num, exp), g, true); e != api.OK && !zero(x) {
					t.Fatalf("%v beside error %d", x, e)
				}
			}
		}
	}
}

// roomy is a copy with spare room behind it, in which something stands.
func roomy(a api.Nat) api.Nat {
	m := append(slices.Clone(a), 77, 78)
	return m[:len(m)-2]
}

func spoil(a api.Nat) {
	a = a[:cap(a)]
	for i := range a {
		a[i] = 0xbad
	}
}

func TestP2AndP3Memory(t *testing.T) {
	g := api.Grid{Radix: 2, Digits: 100, Least: -200, Greatest: 200, Gradual: true}
	one := api.Nat{1}
	calls := map[string]func(a api.Nat) (api.Nat, any, api.Errno){
		"Round's Num": func(a api.Nat) (api.Nat, any, api.Errno) {
			p, e := Round(api.Ratio{Num: a, Den: one}, g, api.RoundEven)
			return p.Digits, [4]any{p.Power, p.Exact, p.Over, p.Under}, e
		},
		"Round's Den": func(a api.Nat) (api.Nat, any, api.Errno) {
			p, e := Round(api.Ratio{Num: one, Den: a}, g, api.RoundUp)
			return p.Digits, [4]any{p.Power, p.Exact, p.Over, p.Under}, e
		},
		"Number": func(a api.Nat) (api.Nat, any, api.Errno) {
			x, e := Number(api.Place{Digits: a, Power: -3}, g)
			return x.Mantissa, x.Exp, e
		},
		"Holds": func(a api.Nat) (api.Nat, any, api.Errno) {
			held, e := Holds(number(false, a, 0), g)
			return nil, held, e
		},
		"Step": func(a api.Nat) (api.Nat, any, api.Errno) {
			x, e := Step(number(false, a, 0), g, false)
			return x.Mantissa, x.Exp, e
		},
	}
	for name, call := range calls {
		for _, a := range []api.Nat{{1}, {3}, {1 << 31}, {0, 1}, {7, 8, 9}, ones(3)} {
			in := roomy(a)
			first, rest, e := call(in)
			kept := slices.Clone(first)
			if !slices.Equal(in[:cap(in)], roomy(a)[:cap(in)]) {
				t.Fatalf("%s changed what it was handed", name)
			}
			spoil(in)
			if !slices.Equal(first, kept) {
				t.Fatalf("%s: the answer changed with what was handed in", name)
			}
			spoil(first)
			again, restAgain, eAgain := call(roomy(a))
			if !slices.Equal(again, kept) || rest != restAgain || e != eAgain {
				t.Fatalf("%s: another answer the next time", name)
			}
		}
	}
}
