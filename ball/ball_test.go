package ball

import (
	"math"
	"math/big"
	"reflect"
	"slices"
	"testing"

	"slipstick/api"
	"slipstick/dyad"
)

// draw: numbers for long tests; the same each time.
type draw uint64

func (d *draw) below(n int) int {
	*d = *d*6364136223846793005 + 1442695040888963407
	return int(uint64(*d) >> 33 % uint64(n))
}

func number(neg bool, mantissa api.Nat, exp int) api.Dyad {
	return api.Dyad{Neg: neg, Mantissa: mantissa, Exp: exp}
}

// small is n times 2 to the power of exp.
func small(n, exp int) api.Dyad {
	if n == 0 {
		return number(false, nil, exp)
	}
	return number(n < 0, api.Nat{uint32(max(n, -n))}, exp)
}

// from n to m, both times 2 to the power of exp.
func from(n, m, exp int) api.Ball { return api.Ball{Low: small(n, exp), High: small(m, exp)} }

// alone is a ball with one number.
func alone(a api.Dyad) api.Ball { return api.Ball{Low: a, High: a} }

// ones has n digits, with all bits set.
func ones(n int) api.Nat { return slices.Repeat(api.Nat{math.MaxUint32}, n) }

func power(n int) *big.Int { return new(big.Int).Lsh(big.NewInt(1), uint(n)) }

func toBig(a api.Nat) *big.Int {
	b := make([]byte, 0, 4*len(a))
	for i := len(a) - 1; i >= 0; i-- {
		b = append(b, byte(a[i]>>24), byte(a[i]>>16), byte(a[i]>>8), byte(a[i]))
	}
	return new(big.Int).SetBytes(b)
}

func value(a api.Dyad) *big.Rat {
	n := toBig(a.Mantissa)
	if a.Neg {
		n.Neg(n)
	}
	if a.Exp < 0 {
		return new(big.Rat).SetFrac(n, power(-a.Exp))
	}
	return new(big.Rat).SetInt(n.Lsh(n, uint(a.Exp)))
}

// fits asks of an end what the chapter asks: that it is bare, and has at most so many bits.
func fits(a api.Dyad, bits int) bool {
	if len(a.Mantissa) == 0 {
		return !a.Neg && a.Exp == 0
	}
	return dyad.Check(a) == api.OK && a.Mantissa[0]%2 == 1 && toBig(a.Mantissa).BitLen() <= bits
}

func zero(a api.Dyad) bool { return !a.Neg && len(a.Mantissa) == 0 && a.Exp == 0 }

func refused(t *testing.T, what string, got api.Ball, e, want api.Errno) {
	t.Helper()
	if e != want || !zero(got.Low) || !zero(got.High) {
		t.Errorf("%s: %v, error %d, and must be error %d alone", what, got, e, want)
	}
}

// wrongs are balls with which something is wrong, each with what is to be told.
func wrongs() map[api.Errno][]api.Ball {
	form, many, far := number(false, api.Nat{1, 0}, 0), number(true, ones(api.MaxDigits+1), 0), small(1, 20001)
	return map[api.Errno][]api.Ball{
		api.ErrForm:  {{Low: form}, {High: form}, {Low: form, High: far}, {Low: small(5, 0), High: form}},
		api.ErrMany:  {{Low: many}, {Low: many, High: form}, {High: many}},
		api.ErrRange: {{Low: small(1, -20001)}, {Low: far, High: form}, {High: small(0, -20001)}, {High: small(1, math.MinInt)}},
		api.ErrState: {from(1, 0, 0), from(-1, -2, 7), from(3, 1, 0), {Low: small(5, 0), High: small(1, 2)},
			{Low: small(1, 20000), High: small(1, -20000)}, {High: number(true, ones(api.MaxDigits), -20000)}},
	}
}

func TestC1Check(t *testing.T) {
	for want, list := range wrongs() {
		for i, a := range list {
			if e := Check(a); e != want {
				t.Errorf("wrong ball %d: error %d, and must be %d", i, e, want)
			}
		}
	}
	fine := []api.Ball{{}, from(1, 1, 0), from(-2, 3, 20000), from(-3, -2, -20000), {Low: small(4, 0), High: small(1, 2)},
		{Low: number(true, nil, 20000), High: number(true, api.Nat{}, -20000)}, alone(number(false, ones(api.MaxDigits), 20000))}
	for _, a := range fine {
		if e := Check(a); e != api.OK {
			t.Errorf("%v: error %d", a, e)
		}
	}
}

// pair is a call that is handed two balls.
type pair struct {
	name string
	do   func(a, b api.Ball, bits int) (api.Ball, api.Errno)
}

func pairs() []pair {
	return []pair{{"Add", Add}, {"Sub", Sub}, {"Mul", Mul}, {"Div", Div}, {"Join", Join}}
}

// What is wrong with balls is told ahead of what is wrong with bits, and that ahead of there being no answer.
func TestC1WrongBallsAreToldFirst(t *testing.T) {
	fine := from(-1, 1, 0)
	for want, list := range wrongs() {
		for _, a := range list {
			for _, bits := range []int{math.MinInt, 0, 1, 4096, 4097} {
				for _, c := range pairs() {
					got, e := c.do(a, fine, bits)
					refused(t, c.name+", the first", got, e, want)
					got, e = c.do(fine, a, bits)
					refused(t, c.name+", the second", got, e, want)
					for other, others := range wrongs() {
						if got, e = c.do(a, others[0], bits); e != want {
							t.Errorf("%s of two wrong ones: error %d, and must be %d (not %d)", c.name, e, want, other)
						}
					}
				}
				got, e := Sqrt(a, bits)
				refused(t, "Sqrt", got, e, want)
			}
			if ok, e := Has(a, small(1, 20001)); ok || e != want {
				t.Errorf("Has: %v, error %d, and must be %d", ok, e, want)
			}
		}
	}
	for _, bits := range []int{math.MinInt, -1, 0, 4097, math.MaxInt} {
		for _, c := range pairs() {
			got, e := c.do(fine, fine, bits)
			refused(t, c.name+" by wrong bits", got, e, api.ErrRange)
		}
		got, e := Sqrt(fine, bits)
		refused(t, "Sqrt by wrong bits", got, e, api.ErrRange)
	}
}

func TestC1Has(t *testing.T) {
	for _, c := range []struct {
		a    api.Ball
		x    api.Dyad
		want bool
	}{
		{from(1, 3, 0), small(1, 0), true},
		{from(1, 3, 0), small(3, 0), true},
		{from(1, 3, 0), small(24, -3), true},
		{from(1, 3, 0), small(1, 1), true},
		{from(1, 3, 0), small(7, -3), false},
		{from(1, 3, 0), small(25, -3), false},
		{from(1, 3, 0), small(-2, 0), false},
		{from(1, 3, 0), small(0, 0), false},
		{from(-3, -1, 0), small(-2, 0), true},
		{from(-3, -1, 0), small(-1, 0), true},
		{from(-3, -1, 0), small(-1, -1), false},
		{from(-3, -1, 0), small(2, 0), false},
		{from(-3, 0, 0), small(0, 20000), true},
		{from(0, 0, 0), number(true, nil, 5), true},
		{from(0, 0, 0), small(1, -20000), false},
		{from(1, 2, 19999), small(3, 19998), true},
		{from(1, 2, 19999), number(false, ones(api.MaxDigits), -20000), false},
		{alone(number(false, ones(api.MaxDigits), 0)), number(false, ones(api.MaxDigits), 0), true},
	} {
		if got, e := Has(c.a, c.x); got != c.want || e != api.OK {
			t.Errorf("%v in %v: %v, error %d", c.x, c.a, got, e)
		}
	}
	for want, x := range map[api.Errno]api.Dyad{api.ErrForm: number(false, api.Nat{0}, 0), api.ErrRange: small(0, 20001), api.ErrMany: number(false, ones(1201), 20001)} {
		if got, e := Has(from(1, 3, 0), x); got || e != want {
			t.Errorf("Has of what is wrong: %v, error %d, and must be %d", got, e, want)
		}
	}
}

// few are all numbers with at most so many bits whose bare exponents are from -24 to 24, and 0, in their order.
func few(bits int) []*big.Rat {
	list := []*big.Rat{new(big.Rat)}
	for n := 1; n < 1<<bits; n += 2 {
		for exp := -24; exp <= 24; exp++ {
			list = append(list, value(small(n, exp)), value(small(-n, exp)))
		}
	}
	slices.SortFunc(list, (*big.Rat).Cmp)
	return list
}

// around is the least ball, with ends of a list, that has all numbers from low to high.
func around(list []*big.Rat, low, high *big.Rat) (*big.Rat, *big.Rat) {
	i, found := slices.BinarySearchFunc(list, low, (*big.Rat).Cmp)
	if !found {
		i--
	}
	j, _ := slices.BinarySearchFunc(list, high, (*big.Rat).Cmp)
	return list[i], list[j]
}

// extremes of what do makes of the ends: of sums, differences, products and quotients they are those of all numbers.
func extremes(a, b api.Ball, do func(z, x, y *big.Rat) *big.Rat) (low, high *big.Rat) {
	for _, x := range []api.Dyad{a.Low, a.High} {
		for _, y := range []api.Dyad{b.Low, b.High} {
			r := do(new(big.Rat), value(x), value(y))
			if low == nil || r.Cmp(low) < 0 {
				low = r
			}
			if high == nil || r.Cmp(high) > 0 {
				high = r
			}
		}
	}
	return low, high
}

// balls: 0, single numbers, and all signs of both ends.
func balls() []api.Ball {
	list := []api.Ball{{}, alone(small(1, 0)), alone(small(-3, -1)), {Low: number(true, nil, 3), High: small(12, -2)}}
	for _, low := range []int{-13, -8, -5, -1, 0, 1, 3, 8, 11} {
		for _, high := range []int{-9, -4, -1, 0, 1, 2, 7, 8, 15} {
			if low <= high {
				list = append(list, from(low, high, -2))
			}
		}
	}
	return list
}

// held holds an answer against the least ball that it must be.
func held(t *testing.T, what string, got api.Ball, e api.Errno, bits int, low, high *big.Rat) {
	t.Helper()
	if e != api.OK || !fits(got.Low, bits) || !fits(got.High, bits) || value(got.Low).Cmp(low) != 0 || value(got.High).Cmp(high) != 0 {
		t.Fatalf("%s by %d bits: %v, error %d, and must be from %v to %v", what, bits, got, e, low, high)
	}
}

func TestC2LeastBallOfTwo(t *testing.T) {
	ways := map[string]func(z, x, y *big.Rat) *big.Rat{"Add": (*big.Rat).Add, "Sub": (*big.Rat).Sub, "Mul": (*big.Rat).Mul, "Div": (*big.Rat).Quo}
	for bits := 1; bits <= 4; bits++ {
		list := few(bits)
		for _, a := range balls() {
			for _, b := range balls() {
				for _, c := range pairs() {
					got, e := c.do(a, b, bits)
					if c.name == "Join" {
						low, high := value(a.Low), value(a.High)
						if other := value(b.Low); other.Cmp(low) < 0 {
							low = other
						}
						if other := value(b.High); other.Cmp(high) > 0 {
							high = other
						}
						low, high = around(list, low, high)
						held(t, "Join", got, e, bits, low, high)
						continue
					}
					if c.name == "Div" && value(b.Low).Sign() <= 0 && value(b.High).Sign() >= 0 {
						refused(t, "over 0", got, e, api.ErrNone)
						continue
					}
					low, high := extremes(a, b, ways[c.name])
					low, high = around(list, low, high)
					held(t, c.name, got, e, bits, low, high)
				}
			}
		}
	}
}

func TestC2SqrtIsLeast(t *testing.T) {
	for bits := 1; bits <= 4; bits++ {
		list := few(bits)
		roots := list[len(list)/2:] // from 0 on
		var squares []*big.Rat
		for _, r := range roots {
			squares = append(squares, new(big.Rat).Mul(r, r))
		}
		for _, a := range balls() {
			for exp := -3; exp <= 3; exp++ {
				b := a
				b.Low.Exp += exp
				b.High.Exp += exp
				got, e := Sqrt(b, bits)
				if value(b.Low).Sign() < 0 {
					refused(t, "root of what is below 0", got, e, api.ErrNone)
					continue
				}
				low, high := around(squares, value(b.Low), value(b.High))
				held(t, "Sqrt", got, e, bits, rootOf(low, squares, roots), rootOf(high, squares, roots))
			}
		}
	}
}

func rootOf(square *big.Rat, squares, roots []*big.Rat) *big.Rat {
	i, _ := slices.BinarySearchFunc(squares, square, (*big.Rat).Cmp)
	return roots[i]
}

func TestExample3(t *testing.T) {
	got, e := Div(alone(small(1, 0)), alone(small(3, 0)), 2)
	held(t, "1 over 3", got, e, 2, big.NewRat(1, 4), big.NewRat(3, 8))
}

// step is by how much a number of so many bits that is not 0 is less than the next one away from 0.
func step(a api.Dyad, bits int) *big.Rat {
	return value(small(1, a.Exp+toBig(a.Mantissa).BitLen()-bits))
}

// By as many bits as there may be, and with numbers as long as they may be: the ends lie on both sides, one step apart.
func TestC2ManyBits(t *testing.T) {
	d := draw(7)
	for _, bits := range []int{31, 32, 33, 64, 1000, 4095, 4096} {
		for _, n := range []int{1, 2, 31, 130, 1200} {
			x, y := ones(n), ones(n)
			for i := range x {
				x[i], y[i] = uint32(d.below(1<<31))|1, uint32(d.below(1<<31))|1
			}
			a, b := number(false, x, -16*n), number(false, y[:max(1, n/3)], d.below(9)-5)
			q, e := Div(alone(a), alone(b), bits)
			if e != api.OK || !fits(q.Low, bits) || !fits(q.High, bits) {
				t.Fatalf("%d bits, %d digits: error %d", bits, n, e)
			}
			back := func(r *big.Rat) int { return new(big.Rat).Mul(r, value(b)).Cmp(value(a)) }
			if back(value(q.Low)) > 0 || back(value(q.High)) < 0 || !next(q, bits) {
				t.Errorf("%d bits, %d digits: the quotient lies elsewhere", bits, n)
			}
			root, e := Sqrt(alone(a), bits)
			if e != api.OK || !fits(root.Low, bits) || !fits(root.High, bits) {
				t.Fatalf("root, %d bits, %d digits: error %d", bits, n, e)
			}
			square := func(r *big.Rat) int { return new(big.Rat).Mul(r, r).Cmp(value(a)) }
			if square(value(root.Low)) > 0 || square(value(root.High)) < 0 || !next(root, bits) {
				t.Errorf("%d bits, %d digits: the root lies elsewhere", bits, n)
			}
		}
	}
}

// next tells whether the ends are the same, or one step apart.
func next(a api.Ball, bits int) bool {
	width := new(big.Rat).Sub(value(a.High), value(a.Low))
	return width.Sign() == 0 || width.Cmp(step(a.Low, bits)) == 0
}

// On the way to an end there may be more digits, and a greater exponent, than a dyad may have.
func TestC2OnlyEndsMustBeShort(t *testing.T) {
	one, tiny := value(small(1, 20000)), alone(small(1, -20000))
	sum, e := Add(alone(small(1, 20000)), tiny, 4096)
	held(t, "far apart", sum, e, 4096, one, new(big.Rat).Add(one, value(small(1, 20000-4095))))
	difference, e := Sub(alone(small(1, 20000)), tiny, 4096)
	held(t, "far apart, less", difference, e, 4096, new(big.Rat).Sub(one, value(small(1, 20000-4096))), one)
	long := number(false, ones(700), -20000)
	product, e := Mul(alone(long), alone(long), 8)
	held(t, "long ones", product, e, 8, value(small(255, 44800-40000-8)), value(small(1, 44800-40000)))
	quotient, e := Div(alone(small(3, -20000)), alone(small(5, -20000)), 3)
	held(t, "small over small", quotient, e, 3, big.NewRat(1, 2), big.NewRat(5, 8))
	root, e := Sqrt(alone(number(false, ones(1200), 0)), 9)
	held(t, "root of the longest", root, e, 9, value(small(511, 19200-9)), value(small(1, 19200)))
}

func TestC2EndsThatNeedTooMuch(t *testing.T) {
	great, tiny := alone(small(1, 20000)), alone(small(1, -20000))
	half := alone(small(1, -1))
	longest := alone(number(false, ones(1200), 20000))
	type call struct {
		name string
		got  api.Ball
		e    api.Errno
	}
	say := func(name string, got api.Ball, e api.Errno) call { return call{name, got, e} }
	got := []call{}
	b, e := Add(great, great, 5)
	got = append(got, say("twice the greatest power", b, e))
	b, e = Mul(tiny, half, 5)
	got = append(got, say("half of the least power", b, e))
	b, e = Mul(great, alone(small(-2, 0)), 5)
	got = append(got, say("low end alone", b, e))
	b, e = Mul(from(0, 1, 19990), from(-1, 5, 15), 3)
	got = append(got, say("high end too great", b, e))
	b, e = Div(great, half, 1)
	got = append(got, say("over a half", b, e))
	b, e = Div(tiny, alone(small(3, 0)), 4)
	got = append(got, say("a third of the least power", b, e))
	b, e = Sqrt(longest, 4096)
	got = append(got, say("root of the greatest", b, e))
	b, e = Join(longest, longest, 4096)
	got = append(got, say("the greatest", b, e))
	b, e = Join(tiny, alone(small(31, 19996)), 1)
	got = append(got, say("cut up beyond", b, e))
	for _, c := range got {
		refused(t, c.name, c.got, c.e, api.ErrRange)
	}
	b, e = Join(tiny, alone(small(31, 19996)), 5)
	held(t, "not cut", b, e, 5, value(small(1, -20000)), value(small(31, 19996)))
	b, e = Mul(tiny, alone(small(6, -1)), 5)
	held(t, "three times the least", b, e, 5, value(small(3, -20000)), value(small(3, -20000)))
	b, e = Join(alone(small(-1, 20000)), great, 1)
	held(t, "from one end to the other", b, e, 1, value(small(-1, 20000)), value(small(1, 20000)))
}

// 0 of another form is 0, and what has no answer has none for all forms.
func TestC2ZeroOfAnyForm(t *testing.T) {
	for _, nought := range []api.Dyad{{}, number(true, nil, 7), number(true, api.Nat{}, -20000), small(0, 20000)} {
		b, e := Div(alone(small(1, 0)), alone(nought), 5)
		refused(t, "over 0", b, e, api.ErrNone)
		b, e = Div(alone(nought), alone(small(-3, 0)), 5)
		held(t, "0 over -3", b, e, 5, new(big.Rat), new(big.Rat))
		b, e = Sqrt(alone(nought), 5)
		held(t, "root of 0", b, e, 5, new(big.Rat), new(big.Rat))
		b, e = Div(alone(small(1, 0)), api.Ball{Low: nought, High: small(1, 0)}, 5)
		refused(t, "over what begins with 0", b, e, api.ErrNone)
		b, e = Div(alone(small(1, 0)), api.Ball{Low: small(-1, 0), High: nought}, 5)
		refused(t, "over what ends with 0", b, e, api.ErrNone)
		b, e = Sqrt(api.Ball{Low: small(-1, -20000), High: nought}, 5)
		refused(t, "root of a little less than 0", b, e, api.ErrNone)
	}
	b, e := Div(alone(small(1, 0)), alone(small(1, -20000)), 5)
	held(t, "over the least", b, e, 5, value(small(1, 20000)), value(small(1, 20000)))
}

// inside is a number of a ball, of which some lie at its ends.
func (d *draw) inside(a api.Ball) *big.Rat {
	low, high := value(a.Low), value(a.High)
	part := big.NewRat(int64(d.below(17)), 16)
	return part.Mul(part, new(big.Rat).Sub(high, low)).Add(part, low)
}

func (d *draw) ball() api.Ball {
	x, y := small(d.below(2001)-1000, d.below(24)-12), small(d.below(2001)-1000, d.below(24)-12)
	if value(x).Cmp(value(y)) > 0 {
		x, y = y, x
	}
	return api.Ball{Low: x, High: y}
}

func TestC3WhateverTwoNumbersAre(t *testing.T) {
	ways := map[string]func(z, x, y *big.Rat) *big.Rat{"Add": (*big.Rat).Add, "Sub": (*big.Rat).Sub, "Mul": (*big.Rat).Mul, "Div": (*big.Rat).Quo}
	d := draw(3)
	has := func(a api.Ball, x *big.Rat) bool { return value(a.Low).Cmp(x) <= 0 && value(a.High).Cmp(x) >= 0 }
	for range 3000 {
		a, b, bits := d.ball(), d.ball(), 1+d.below(20)
		for _, c := range pairs() {
			got, e := c.do(a, b, bits)
			if c.name == "Div" && e == api.ErrNone && has(b, new(big.Rat)) {
				continue
			}
			if e != api.OK {
				t.Fatalf("%s of %v and %v: error %d", c.name, a, b, e)
			}
			for range 5 {
				x, y := d.inside(a), d.inside(b)
				if c.name == "Join" {
					if !has(got, x) || !has(got, y) {
						t.Fatalf("Join of %v and %v: %v", a, b, got)
					}
				} else if r := ways[c.name](new(big.Rat), x, y); !has(got, r) {
					t.Fatalf("%s of %v and %v: %v has not %v", c.name, a, b, got, r)
				}
			}
		}
	}
}

func TestP1WhateverIsHandedIn(t *testing.T) {
	list := balls()[:12]
	for _, wrong := range wrongs() {
		list = append(list, wrong...)
	}
	list = append(list, alone(number(true, ones(1200), 20000)), api.Ball{Low: number(true, ones(1200), -20000), High: small(1, 20000)})
	for _, a := range list {
		for _, b := range list {
			for _, bits := range []int{math.MinInt, 0, 1, 4096, math.MaxInt} {
				for _, c := range pairs() {
					if got, e := c.do(a, b, bits); e != api.OK {
						refused(t, c.name, got, e, e)
					}
				}
				if got, e := Sqrt(a, bits); e != api.OK {
					refused(t, "Sqrt", got, e, e)
				}
			}
			if ok, e := Has(a, b.High); ok && e != api.OK {
				t.Errorf("Has: true beside error %d", e)
			}
		}
	}
}

// roomy is a copy with spare room behind its lists, in which something stands.
func roomy(a api.Ball) api.Ball {
	for _, x := range []*api.Dyad{&a.Low, &a.High} {
		m := append(slices.Clone(x.Mantissa), 77, 78)
		x.Mantissa = m[:len(m)-2]
	}
	return a
}

// lists of a ball, with all the room that they have.
func lists(a api.Ball) []api.Nat {
	return []api.Nat{a.Low.Mantissa[:cap(a.Low.Mantissa)], a.High.Mantissa[:cap(a.High.Mantissa)]}
}

func spoil(a api.Ball) {
	for _, m := range lists(a) {
		for i := range m {
			m[i] = 0xbad
		}
	}
}

func same(a, b api.Ball) bool {
	equal := func(x, y api.Dyad) bool {
		return x.Neg == y.Neg && x.Exp == y.Exp && slices.Equal(x.Mantissa, y.Mantissa)
	}
	return equal(a.Low, b.Low) && equal(a.High, b.High)
}

func TestP2AndP3Memory(t *testing.T) {
	calls := append(pairs(),
		pair{"Sqrt", func(a, _ api.Ball, bits int) (api.Ball, api.Errno) { return Sqrt(a, bits) }},
		pair{"Has", func(a, b api.Ball, _ int) (api.Ball, api.Errno) { Has(a, b.Low); return api.Ball{}, api.OK }})
	pool := []api.Ball{from(3, 3, 0), from(5, 7, -1), alone(number(false, api.Nat{1, 2, 3}, -40)), from(0, 9, 3)}
	for _, c := range calls {
		for _, x := range pool {
			for _, y := range pool {
				for _, bits := range []int{2, 100, 4096} {
					a, b := roomy(x), roomy(y)
					first, e1 := c.do(a, b, bits)
					kept := roomy(first)
					if !same(a, x) || !same(b, y) || !reflect.DeepEqual(lists(a), lists(roomy(x))) || !reflect.DeepEqual(lists(b), lists(roomy(y))) {
						t.Fatalf("%s changed what it was handed", c.name)
					}
					spoil(a)
					spoil(b)
					if !same(first, kept) {
						t.Fatalf("%s: the answer changed with what was handed in", c.name)
					}
					for i := range first.Low.Mantissa[:cap(first.Low.Mantissa)] {
						first.Low.Mantissa[:cap(first.Low.Mantissa)][i] = 0xbad
					}
					if !slices.Equal(first.High.Mantissa, kept.High.Mantissa) {
						t.Fatalf("%s: both ends share memory", c.name)
					}
					spoil(first)
					again, e2 := c.do(roomy(x), roomy(y), bits)
					if e1 != e2 || !same(again, kept) {
						t.Fatalf("%s: another answer the next time", c.name)
					}
				}
			}
		}
	}
}
