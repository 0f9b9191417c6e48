package dyad

import (
	"math"
	"math/big"
	"slices"
	"testing"

	"slipstick/api"
)

// draw: numbers for long tests; the same each time.
type draw uint64

func (d *draw) below(n int) int {
	*d = *d*6364136223846793005 + 1442695040888963407
	return int(uint64(*d) >> 33 % uint64(n))
}

func (d *draw) dyad() api.Dyad {
	m := make(api.Nat, 1+d.below(4))
	for i := range m {
		m[i] = []uint32{0, 1, 1<<32 - 1, uint32(d.below(1 << 31))}[d.below(4)]
	}
	m[len(m)-1] |= 1 << d.below(32)
	return number(d.below(2) == 0, m, d.below(200)-100)
}

func number(neg bool, mantissa api.Nat, exp int) api.Dyad {
	return api.Dyad{Neg: neg, Mantissa: mantissa, Exp: exp}
}

// small is n times 2 to the power of exp.
func small(n, exp int) api.Dyad {
	if n < 0 {
		return number(true, api.Nat{uint32(-n)}, exp)
	}
	if n == 0 {
		return number(false, nil, exp)
	}
	return number(false, api.Nat{uint32(n)}, exp)
}

// power is 2 to the power of n, as a mantissa.
func power(n int) api.Nat {
	a := make(api.Nat, n/32+1)
	a[n/32] = 1 << (n % 32)
	return a
}

// ones has n digits, with all bits set.
func ones(n int) api.Nat { return slices.Repeat(api.Nat{math.MaxUint32}, n) }

// wrongs are dyads with which something is wrong, each with what.
func wrongs() map[api.Errno][]api.Dyad {
	return map[api.Errno][]api.Dyad{
		api.ErrForm: {number(false, api.Nat{1, 0}, 0), number(true, api.Nat{0}, 0), number(false, api.Nat{0}, math.MaxInt),
			number(false, make(api.Nat, api.MaxDigits+1), 0)},
		api.ErrMany:  {number(false, ones(api.MaxDigits+1), 0), number(true, power(38400), 20001)},
		api.ErrRange: {small(1, 20001), small(1, -20001), small(0, 20001), small(-4, math.MinInt), small(-4, math.MaxInt)},
	}
}

// dyads: 0 in several clothes, small ones, bare and not, and those at the edges of MaxExp and MaxDigits.
func dyads() []api.Dyad {
	list := []api.Dyad{{}, number(true, nil, 5), number(true, api.Nat{}, -20000), small(0, 20000)}
	for _, n := range []int{1, -1, 2, 3, -3, -12, 64} {
		for _, e := range []int{0, -1, -3, 7, 19999, 20000, -20000} {
			list = append(list, small(n, e))
		}
	}
	list = append(list, number(false, api.Nat{0, 8}, -40), number(false, ones(2), -64), number(true, power(38399), 20000),
		number(false, power(38399), -20000), number(true, ones(api.MaxDigits), 20000), number(false, ones(api.MaxDigits), -20000),
		number(false, ones(600), 0), number(true, power(20000), -20000))
	d := draw(1)
	for range 20 {
		list = append(list, d.dyad())
	}
	return list
}

func toBig(a api.Nat) *big.Int {
	b := make([]byte, 0, 4*len(a))
	for i := len(a) - 1; i >= 0; i-- {
		b = append(b, byte(a[i]>>24), byte(a[i]>>16), byte(a[i]>>8), byte(a[i]))
	}
	return new(big.Int).SetBytes(b)
}

// point is how many bits the whole numbers of these tests have behind the point: twice as many as a dyad may have.
const point = 2 * api.MaxExp

// value of a dyad, times 2 to the power of point.
func value(a api.Dyad) *big.Int {
	v := toBig(a.Mantissa)
	if a.Neg {
		v.Neg(v)
	}
	return v.Lsh(v, uint(a.Exp+point))
}

// isBare asks for what the chapter says of what is answered.
func isBare(a api.Dyad) bool {
	if len(a.Mantissa) == 0 {
		return !a.Neg && a.Exp == 0
	}
	return a.Mantissa[0]%2 == 1 && Check(a) == api.OK
}

func isZero(a api.Dyad) bool { return !a.Neg && len(a.Mantissa) == 0 && a.Exp == 0 }

// brief of a dyad, for messages.
func brief(a api.Dyad) string {
	s := toBig(a.Mantissa).Text(16)
	if len(s) > 40 {
		s = s[:40] + ".."
	}
	if a.Neg {
		s = "-" + s
	}
	return s + " p" + big.NewInt(int64(a.Exp)).String()
}

// answer holds an answer against the number that it must be (times 2 to the power of point): or the error that B2 names,
// if a dyad of that number would need more than it may have.
func answer(t *testing.T, what string, got api.Dyad, e api.Errno, want *big.Int) {
	t.Helper()
	wantError := api.OK
	if want.Sign() != 0 {
		twos := int(want.TrailingZeroBits())
		exp := twos - point
		if want.BitLen()-twos > 32*api.MaxDigits {
			wantError = api.ErrMany
		} else if exp > api.MaxExp || exp < -api.MaxExp {
			wantError = api.ErrRange
		}
	}
	switch {
	case e != wantError:
		t.Fatalf("%s: error %d, and must be %d", what, e, wantError)
	case e != api.OK && !isZero(got):
		t.Fatalf("%s: %s beside error %d", what, brief(got), e)
	case !isBare(got):
		t.Fatalf("%s: %s is not bare", what, brief(got))
	case e == api.OK && value(got).Cmp(want) != 0:
		t.Fatalf("%s: %s", what, brief(got))
	}
}

// refused asks for an error and nothing else.
func refused(t *testing.T, what string, got api.Dyad, e, want api.Errno) {
	t.Helper()
	if e != want || !isZero(got) {
		t.Errorf("%s: %s, error %d, and must be error %d", what, brief(got), e, want)
	}
}

func TestB1Check(t *testing.T) {
	for _, a := range dyads() {
		if e := Check(a); e != api.OK {
			t.Errorf("%s: error %d", brief(a), e)
		}
	}
	for want, list := range wrongs() {
		for _, a := range list {
			if e := Check(a); e != want {
				t.Errorf("Exp %d: error %d, and must be %d", a.Exp, e, want)
			}
		}
	}
}

// call of the package with two dyads, or with the first of them: all that it answers.
type call struct {
	name  string
	pairs bool
	do    func(a, b api.Dyad) (d api.Dyad, rest any, e api.Errno)
}

func calls() []call {
	pair := func(name string, f func(a, b api.Dyad) (api.Dyad, api.Errno)) call {
		return call{name, true, func(a, b api.Dyad) (api.Dyad, any, api.Errno) {
			c, e := f(a, b)
			return c, nil, e
		}}
	}
	with := func(name string, f func(a api.Dyad) (api.Dyad, api.Errno)) call {
		return call{name, false, func(a, _ api.Dyad) (api.Dyad, any, api.Errno) {
			c, e := f(a)
			return c, nil, e
		}}
	}
	return []call{
		pair("Add", Add), pair("Mul", Mul), with("Bare", Bare),
		{"Compare", true, func(a, b api.Dyad) (api.Dyad, any, api.Errno) {
			c, e := Compare(a, b)
			return api.Dyad{}, c, e
		}},
		{"Floor", false, func(a, _ api.Dyad) (api.Dyad, any, api.Errno) {
			m, neg, e := Floor(a)
			return api.Dyad{Mantissa: m}, neg, e
		}},
		with("Scale by 0", func(a api.Dyad) (api.Dyad, api.Errno) { return Scale(a, 0) }),
		with("Scale by -32", func(a api.Dyad) (api.Dyad, api.Errno) { return Scale(a, -32) }),
		with("Cut to 1", func(a api.Dyad) (api.Dyad, api.Errno) { return Cut(a, 1, true) }),
		with("Cut to 33", func(a api.Dyad) (api.Dyad, api.Errno) { return Cut(a, 33, false) }),
		with("Cut to 4096", func(a api.Dyad) (api.Dyad, api.Errno) { return Cut(a, 4096, true) }),
	}
}

// nothing tells whether no more than an error was answered.
func nothing(d api.Dyad, rest any) bool {
	return isZero(d) && (rest == nil || rest == 0 || rest == false)
}

func TestB1WrongDyadsAreToldFirst(t *testing.T) {
	ask := func(c call, a, b api.Dyad, want api.Errno) {
		t.Helper()
		if d, rest, e := c.do(a, b); e != want || !nothing(d, rest) {
			t.Errorf("%s: %s %v, error %d, and must be error %d", c.name, brief(d), rest, e, want)
		}
	}
	for want, list := range wrongs() {
		for _, a := range list {
			for _, c := range calls() {
				ask(c, a, small(1, 0), want)
				if !c.pairs {
					continue
				}
				ask(c, small(1, 0), a, want)
				for _, others := range wrongs() {
					ask(c, a, others[0], want)
				}
			}
			for _, n := range []int{0, -1, 4097, 40001, -40001} {
				d, e := Scale(a, n)
				refused(t, "Scale", d, e, want)
				d, e = Cut(a, n, true)
				refused(t, "Cut", d, e, want)
			}
		}
	}
}

func TestB1Bare(t *testing.T) {
	for _, a := range dyads() {
		b, e := Bare(a)
		answer(t, "Bare of "+brief(a), b, e, value(a))
	}
	for _, a := range []api.Dyad{small(2, 20000), small(4, 19999), number(true, power(38399), 20000)} {
		b, e := Bare(a)
		refused(t, "Bare of "+brief(a), b, e, api.ErrRange)
	}
	b, e := Bare(small(2, 19999))
	if e != api.OK || b.Exp != 20000 || !slices.Equal(b.Mantissa, api.Nat{1}) {
		t.Errorf("the greatest Exp: %s, error %d", brief(b), e)
	}
}

func TestB1Compare(t *testing.T) {
	for _, a := range dyads() {
		for _, b := range dyads() {
			if c, e := Compare(a, b); e != api.OK || c != value(a).Cmp(value(b)) {
				t.Errorf("Compare of %s and %s: %d, error %d", brief(a), brief(b), c, e)
			}
		}
	}
}

func TestB2AddAndMul(t *testing.T) {
	for _, a := range dyads() {
		for _, b := range dyads() {
			what := " of " + brief(a) + " and " + brief(b)
			sum, e := Add(a, b)
			answer(t, "Add"+what, sum, e, new(big.Int).Add(value(a), value(b)))
			product, e := Mul(a, b)
			// The factors have no more than half of the bits behind the point: so nothing is lost here.
			want := new(big.Int).Mul(value(a), value(b))
			answer(t, "Mul"+what, product, e, want.Quo(want, new(big.Int).Lsh(big.NewInt(1), point)))
		}
	}
}

// What is in between may need more than MaxDigits, though what comes does not.
func TestB2SumsAtTheEdgeOfMaxDigits(t *testing.T) {
	low := small(-1, -18400)
	sum, e := Add(small(1, 20000), low)
	if e != api.OK || !slices.Equal(sum.Mantissa, ones(api.MaxDigits)) || sum.Exp != -18400 || sum.Neg {
		t.Errorf("2 to the power of 38400, less 1: %s, error %d", brief(sum), e)
	}
	sum, e = Add(small(1, 20000), small(1, -18400))
	refused(t, "2 to the power of 38400, and 1", sum, e, api.ErrMany)
	sum, e = Add(small(1, 20000), small(-1, -18401))
	refused(t, "2 to the power of 38401, less 1", sum, e, api.ErrMany)
	sum, e = Add(small(1, 20000), small(1, -20000))
	refused(t, "as far apart as may be", sum, e, api.ErrMany)
	sum, e = Add(number(false, power(38399), 20000), small(1, -20000))
	refused(t, "farther apart still", sum, e, api.ErrMany)
	full := number(false, ones(api.MaxDigits), 0)
	sum, e = Add(full, small(1, 0))
	answer(t, "the longest, and 1", sum, e, new(big.Int).Lsh(big.NewInt(1), 38400+point))
	sum, e = Add(number(false, ones(api.MaxDigits), 20000), small(1, 20000))
	refused(t, "an Exp of 58400", sum, e, api.ErrRange)
	sum, e = Add(full, number(true, ones(api.MaxDigits), 0))
	answer(t, "the longest, less itself", sum, e, new(big.Int))
}

func TestB2ProductsAtTheEdges(t *testing.T) {
	product, e := Mul(number(false, ones(600), 20000), number(true, ones(600), 0))
	if e != api.OK || len(product.Mantissa) != api.MaxDigits || product.Exp != 20000 || !product.Neg {
		t.Errorf("600 digits, squared: %s, error %d", brief(product), e)
	}
	product, e = Mul(number(false, ones(601), 20000), number(false, ones(600), 20000))
	refused(t, "1201 digits and an Exp of 40000", product, e, api.ErrMany)
	product, e = Mul(number(false, power(38399), 0), number(false, power(38399), -20000))
	refused(t, "an Exp of 56798", product, e, api.ErrRange)
	product, e = Mul(number(false, power(38399), -20000), number(false, power(20000), -20000))
	answer(t, "long, but not if bare", product, e, new(big.Int).Lsh(big.NewInt(1), 38399-20000+point))
	product, e = Mul(small(1, -20000), small(-1, -1))
	refused(t, "an Exp of -20001", product, e, api.ErrRange)
	product, e = Mul(small(4, 20000), small(0, 20000))
	answer(t, "times 0", product, e, new(big.Int))
}

// TestExample2 is the document's: 1 and 3 are 1 times 2 to the power of 2.
func TestExample2(t *testing.T) {
	sum, e := Add(small(1, 0), small(3, 0))
	if e != api.OK || sum.Neg || sum.Exp != 2 || !slices.Equal(sum.Mantissa, api.Nat{1}) {
		t.Errorf("%s, error %d", brief(sum), e)
	}
}

func TestB2Scale(t *testing.T) {
	for _, a := range dyads() {
		for _, n := range []int{0, 1, -1, 31, -31, 19999, 20000, -19999, -20000} {
			b, e := Scale(a, n)
			answer(t, "Scale of "+brief(a), b, e, new(big.Int).Quo(new(big.Int).Lsh(value(a), uint(n+point)), new(big.Int).Lsh(big.NewInt(1), point)))
		}
		for _, n := range []int{40001, -40001, math.MaxInt, math.MinInt} {
			b, e := Scale(a, n)
			refused(t, "Scale of "+brief(a), b, e, api.ErrRange)
		}
	}
	for _, c := range []struct {
		a       api.Dyad
		n, want int
	}{{small(1, -20000), 40000, 20000}, {small(-3, 20000), -40000, -20000}, {small(4, 20000), -2, 20000}, {small(4, -20000), -2, -20000}} {
		b, e := Scale(c.a, c.n)
		if e != api.OK || b.Exp != c.want || b.Neg != c.a.Neg {
			t.Errorf("Scale of %s by %d: %s, error %d", brief(c.a), c.n, brief(b), e)
		}
	}
	b, e := Scale(small(4, -20000), -3)
	refused(t, "an Exp of -20001", b, e, api.ErrRange)
	b, e = Scale(small(4, 20000), -1)
	refused(t, "an Exp of 20001", b, e, api.ErrRange)
	for _, n := range []int{40000, -40000} {
		b, e = Scale(small(0, 7), n)
		answer(t, "0", b, e, new(big.Int))
	}
}

// few are all numbers from -512 to 512 whose bare mantissas have at most so many bits, and no more than 6 behind the
// point: among them are the neighbours of all numbers that TestB3CutSmall cuts.
func few(bits int) []*big.Int {
	var list []*big.Int
	for n := -512 << 6; n <= 512<<6; n++ {
		v := big.NewInt(int64(n))
		if v.BitLen()-int(v.TrailingZeroBits()) <= bits {
			list = append(list, v.Lsh(v, point-6))
		}
	}
	return list
}

func TestB3CutSmall(t *testing.T) {
	for bits := 1; bits <= 5; bits++ {
		list := few(bits)
		for n := -70; n <= 70; n++ {
			for _, exp := range []int{-3, 0, 2} {
				a := small(n, exp)
				i, exact := slices.BinarySearchFunc(list, value(a), (*big.Int).Cmp)
				up, e := Cut(a, bits, true)
				answer(t, "Cut up of "+brief(a), up, e, list[i])
				if !exact {
					i--
				}
				down, e := Cut(a, bits, false)
				answer(t, "Cut down of "+brief(a), down, e, list[i])
			}
		}
	}
}

func TestB3CutAtTheEdges(t *testing.T) {
	full := number(false, ones(api.MaxDigits), -20000)
	up, e := Cut(full, api.MaxBits, true)
	answer(t, "the longest, up", up, e, new(big.Int).Lsh(big.NewInt(1), 38400-20000+point))
	down, e := Cut(full, api.MaxBits, false)
	answer(t, "the longest, down", down, e, value(number(false, ones(128), 38400-4096-20000)))
	same, e := Cut(number(true, ones(128), 1), api.MaxBits, false)
	answer(t, "as many bits", same, e, value(number(true, ones(128), 1)))
	// What is cut decides over the Exp, not what it was cut from.
	up, e = Cut(small(7, 20000), 1, true)
	refused(t, "an Exp of 20003", up, e, api.ErrRange)
	down, e = Cut(small(5, 20000), 2, false)
	refused(t, "an Exp of 20002", down, e, api.ErrRange)
	down, e = Cut(small(5, 19998), 2, false)
	answer(t, "an Exp of 20000", down, e, value(small(1, 20000)))
	same, e = Cut(small(4, 19999), 64, false)
	refused(t, "bare it has an Exp of 20001", same, e, api.ErrRange)
	for _, a := range dyads() {
		for _, bits := range []int{0, -1, api.MaxBits + 1, math.MaxInt, math.MinInt} {
			b, e := Cut(a, bits, true)
			refused(t, "Cut of "+brief(a), b, e, api.ErrRange)
		}
	}
}

func TestB3Floor(t *testing.T) {
	for _, a := range dyads() {
		v := value(a)
		want := new(big.Int).Rsh(new(big.Int).Abs(v), point)
		whole, neg, e := Floor(a)
		if want.BitLen() > 32*api.MaxDigits {
			if e != api.ErrMany || len(whole) > 0 || neg {
				t.Errorf("Floor of %s: %d digits, %v, error %d", brief(a), len(whole), neg, e)
			}
			continue
		}
		if e != api.OK || toBig(whole).Cmp(want) != 0 || neg != (v.Sign() < 0) || len(whole) > 0 && whole[len(whole)-1] == 0 {
			t.Errorf("Floor of %s: %d digits, %v, error %d", brief(a), len(whole), neg, e)
		}
	}
	for _, c := range []struct {
		a     api.Dyad
		whole api.Nat
		neg   bool
		e     api.Errno
	}{
		{small(7, -1), api.Nat{3}, false, api.OK}, {small(-7, -1), api.Nat{3}, true, api.OK}, {small(-1, -1), nil, true, api.OK},
		{number(true, nil, 9), nil, false, api.OK}, {small(8, -1), api.Nat{4}, false, api.OK},
		{number(true, ones(api.MaxDigits), 0), ones(api.MaxDigits), true, api.OK},
		{number(true, ones(api.MaxDigits), 1), nil, false, api.ErrMany},
		{number(true, power(18399), 20000), power(38399), true, api.OK}, {number(true, power(18400), 20000), nil, false, api.ErrMany},
	} {
		whole, neg, e := Floor(c.a)
		if !slices.Equal(whole, c.whole) || neg != c.neg || e != c.e {
			t.Errorf("Floor of %s: %d digits, %v, error %d", brief(c.a), len(whole), neg, e)
		}
	}
}

func equal(a, b api.Dyad) bool {
	return a.Neg == b.Neg && a.Exp == b.Exp && slices.Equal(a.Mantissa, b.Mantissa)
}

func TestB4SumsAndProductsInAnyOrder(t *testing.T) {
	d := draw(2)
	for _, do := range []func(a, b api.Dyad) (api.Dyad, api.Errno){Add, Mul} {
		for range 3000 {
			a, b, c := d.dyad(), d.dyad(), d.dyad()
			ab, _ := do(a, b)
			ba, _ := do(b, a)
			bc, _ := do(b, c)
			left, e1 := do(ab, c)
			right, e2 := do(a, bc)
			if e1 != api.OK || e2 != api.OK || !equal(ab, ba) || !equal(left, right) {
				t.Fatalf("%s, %s, %s: %s or %s", brief(a), brief(b), brief(c), brief(left), brief(right))
			}
		}
	}
}

// Between what is cut down and what is cut up lies what was cut, and, as both have the same last place, nothing else.
func TestB4CutBothWays(t *testing.T) {
	d := draw(3)
	for range 3000 {
		a, bits := d.dyad(), 1+d.below(140)
		down, e1 := Cut(a, bits, false)
		up, e2 := Cut(a, bits, true)
		if e1 != api.OK || e2 != api.OK {
			t.Fatalf("Cut of %s: errors %d and %d", brief(a), e1, e2)
		}
		v := toBig(a.Mantissa)
		width := new(big.Int).Sub(value(up), value(down))
		if v.BitLen()-int(v.TrailingZeroBits()) <= bits {
			if width.Sign() != 0 || value(up).Cmp(value(a)) != 0 {
				t.Fatalf("Cut of %s to %d bits: it need not be cut", brief(a), bits)
			}
			continue
		}
		last := new(big.Int).Lsh(big.NewInt(1), uint(v.BitLen()-bits+a.Exp+point))
		if value(down).Cmp(value(a)) >= 0 || value(up).Cmp(value(a)) <= 0 || width.Cmp(last) != 0 {
			t.Fatalf("Cut of %s to %d bits: from %s to %s", brief(a), bits, brief(down), brief(up))
		}
		for _, c := range []api.Dyad{down, up} {
			if n := toBig(c.Mantissa).BitLen(); n > bits || !isBare(c) {
				t.Fatalf("Cut of %s to %d bits: %s", brief(a), bits, brief(c))
			}
		}
	}
}

// P1: whatever is handed in, a call ends and does not panic, and an error stands alone.
func TestP1WhateverIsHandedIn(t *testing.T) {
	list := dyads()
	for _, wrong := range wrongs() {
		list = append(list, wrong...)
	}
	for _, c := range calls() {
		for _, a := range list {
			for _, b := range list {
				if d, rest, e := c.do(a, b); e != api.OK && !nothing(d, rest) {
					t.Errorf("%s: %s %v beside error %d", c.name, brief(d), rest, e)
				}
				if !c.pairs {
					break
				}
			}
		}
	}
}

// roomy is a copy with spare room behind its mantissa, which is filled.
func roomy(a api.Dyad) api.Dyad {
	m := append(slices.Clone(a.Mantissa), 0xabcd, 0xabcd, 0xabcd, 0xabcd)
	a.Mantissa = m[:len(a.Mantissa)]
	return a
}

// whole list of a mantissa, with the room behind it.
func whole(a api.Dyad) api.Nat { return a.Mantissa[:cap(a.Mantissa)] }

// spoil overwrites a mantissa and the room behind it.
func spoil(a api.Dyad) {
	for i := range whole(a) {
		whole(a)[i] ^= math.MaxUint32
	}
}

// P2: arguments are only read and not kept; answers are new. P3: the same again, the same answer.
func TestP2AndP3Memory(t *testing.T) {
	list := []api.Dyad{{}, small(0, 3), small(1, 0), small(-1, 0), small(12, 5), small(-3, 5), number(false, ones(3), 0),
		number(true, api.Nat{0, 0, 7}, -64), number(false, power(200), -200)}
	for _, c := range calls() {
		for _, a := range list {
			for _, b := range list {
				x, y := roomy(a), roomy(b)
				wholeX, wholeY := slices.Clone(whole(x)), slices.Clone(whole(y))
				d, rest, e := c.do(x, y)
				told := slices.Clone(d.Mantissa)
				again, restAgain, eAgain := c.do(x, y)
				if !equal(d, again) || rest != restAgain || e != eAgain {
					t.Fatalf("%s: not the same each time", c.name)
				}
				spoil(d)
				if !slices.Equal(whole(x), wholeX) || !slices.Equal(whole(y), wholeY) {
					t.Fatalf("%s: an argument was changed, or the answer shares its memory", c.name)
				}
				spoil(x)
				spoil(y)
				if !slices.Equal(told, again.Mantissa) {
					t.Fatalf("%s: the answer changed with an argument, or with another answer", c.name)
				}
			}
		}
	}
}
