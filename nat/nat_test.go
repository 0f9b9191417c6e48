package nat

import (
	"math"
	"math/big"
	"slices"
	"strings"
	"testing"

	"slipstick/api"
)

// draw: numbers for long tests; the same each time.
type draw uint64

func (d *draw) below(n int) int {
	*d = *d*6364136223846793005 + 1442695040888963407
	return int(uint64(*d) >> 33 % uint64(n))
}

func (d *draw) number(most int) api.Nat {
	a := make(api.Nat, d.below(most+1))
	for i := range a {
		a[i] = []uint32{0, 1, 1<<32 - 1, uint32(d.below(1 << 31))}[d.below(4)]
	}
	if len(a) > 0 && a[len(a)-1] == 0 {
		a[len(a)-1] = 1 + uint32(d.below(1<<31))
	}
	return a
}

// power is 2 to the power of n.
func power(n int) api.Nat {
	a := make(api.Nat, n/32+1)
	a[n/32] = 1 << (n % 32)
	return a
}

// ones has n digits, with all bits set.
func ones(n int) api.Nat {
	return slices.Repeat(api.Nat{math.MaxUint32}, n)
}

func noughtAhead() api.Nat { return api.Nat{5, 0} }
func tooLong() api.Nat     { return ones(api.MaxDigits + 1) }

// numbers: small ones, and those at the edges of digits and of MaxDigits.
func numbers() []api.Nat {
	list := []api.Nat{nil, {}, {1}, {2}, {3}, {9}, {10}, {math.MaxUint32}, {0, 1}, {1, 1}, {7, 0, 3}, ones(3), power(128),
		power(38399), ones(600), ones(601), ones(api.MaxDigits)}
	d := draw(1)
	for range 30 {
		list = append(list, d.number(12))
	}
	for range 4 {
		list = append(list, d.number(api.MaxDigits))
	}
	return list
}

func toBig(a api.Nat) *big.Int {
	b := make([]byte, 0, 4*len(a))
	for i := len(a) - 1; i >= 0; i-- {
		b = append(b, byte(a[i]>>24), byte(a[i]>>16), byte(a[i]>>8), byte(a[i]))
	}
	return new(big.Int).SetBytes(b)
}

// brief of a number, for messages.
func brief(a api.Nat) string {
	s := toBig(a).Text(16)
	if len(s) > 60 {
		s = s[:60] + ".."
	}
	return "0x" + s
}

// answer holds an answer against the number that it must be: or ErrMany, if that one is too long.
func answer(t *testing.T, what string, got api.Nat, e api.Errno, want *big.Int) {
	t.Helper()
	if want.BitLen() > 32*api.MaxDigits {
		if e != api.ErrMany || len(got) > 0 {
			t.Fatalf("%s: %s, error %d, and must be ErrMany", what, brief(got), e)
		}
		return
	}
	if e != api.OK || Check(got) != api.OK || toBig(got).Cmp(want) != 0 {
		t.Fatalf("%s: %s, error %d", what, brief(got), e)
	}
}

// refused asks for an error and nothing else.
func refused(t *testing.T, what string, got api.Nat, e, want api.Errno) {
	t.Helper()
	if e != want || len(got) > 0 {
		t.Errorf("%s: %s, error %d, and must be error %d", what, brief(got), e, want)
	}
}

func TestA1Check(t *testing.T) {
	for _, c := range []struct {
		a    api.Nat
		want api.Errno
	}{
		{nil, api.OK}, {api.Nat{}, api.OK}, {api.Nat{1}, api.OK}, {api.Nat{0, 1}, api.OK},
		{ones(api.MaxDigits), api.OK}, {power(38399), api.OK},
		{api.Nat{0}, api.ErrForm}, {noughtAhead(), api.ErrForm}, {make(api.Nat, api.MaxDigits), api.ErrForm},
		{make(api.Nat, api.MaxDigits+1), api.ErrForm}, // of both errors the first one
		{tooLong(), api.ErrMany}, {power(38400), api.ErrMany},
	} {
		if got := Check(c.a); got != c.want {
			t.Errorf("%d digits: %d, and must be %d", len(c.a), got, c.want)
		}
	}
}

func TestA1CompareAndBits(t *testing.T) {
	for _, a := range numbers() {
		if n, e := Bits(a); n != toBig(a).BitLen() || e != api.OK {
			t.Errorf("Bits of %s: %d, error %d", brief(a), n, e)
		}
		for _, b := range numbers() {
			if c, e := Compare(a, b); c != toBig(a).Cmp(toBig(b)) || e != api.OK {
				t.Errorf("Compare of %s and %s: %d, error %d", brief(a), brief(b), c, e)
			}
		}
	}
}

// call of the package with two numbers, or with the first of them: all that it answers.
type call struct {
	name  string
	pairs bool
	do    func(a, b api.Nat) (lists []api.Nat, rest any, e api.Errno)
}

// calls of the package: those of which every argument may be right.
func calls() []call {
	pair := func(name string, f func(a, b api.Nat) (api.Nat, api.Errno)) call {
		return call{name, true, func(a, b api.Nat) ([]api.Nat, any, api.Errno) {
			c, e := f(a, b)
			return []api.Nat{c}, nil, e
		}}
	}
	with := func(name string, f func(a api.Nat, n int) (api.Nat, api.Errno), n int) call {
		return call{name, false, func(a, _ api.Nat) ([]api.Nat, any, api.Errno) {
			c, e := f(a, n)
			return []api.Nat{c}, nil, e
		}}
	}
	return []call{
		pair("Add", Add), pair("Sub", Sub), pair("Mul", Mul),
		{"Div", true, func(a, b api.Nat) ([]api.Nat, any, api.Errno) {
			q, r, e := Div(a, b)
			return []api.Nat{q, r}, nil, e
		}},
		{"Compare", true, func(a, b api.Nat) ([]api.Nat, any, api.Errno) {
			c, e := Compare(a, b)
			return nil, c, e
		}},
		{"Bits", false, func(a, _ api.Nat) ([]api.Nat, any, api.Errno) {
			c, e := Bits(a)
			return nil, c, e
		}},
		{"Print", false, func(a, _ api.Nat) ([]api.Nat, any, api.Errno) {
			c, e := Print(a)
			return nil, c, e
		}},
		with("Shift by 0", Shift, 0), with("Shift by 32", Shift, 32), with("Shift by 1", Shift, 1), with("Shift by -1", Shift, -1),
		with("Shift by -32", Shift, -32), with("Root 1", Root, 1), with("Root 2", Root, 2), with("Root 10", Root, 10),
	}
}

// zero tells whether nothing but an error was answered.
func zero(lists []api.Nat, rest any) bool {
	for _, l := range lists {
		if len(l) > 0 {
			return false
		}
	}
	return rest == nil || rest == 0 || rest == ""
}

func TestA1WrongNumbersAreToldFirst(t *testing.T) {
	for _, c := range calls() {
		ask := func(a, b api.Nat, want api.Errno) {
			t.Helper()
			if lists, rest, e := c.do(a, b); e != want || !zero(lists, rest) {
				t.Errorf("%s: %v %v, error %d, and must be error %d", c.name, lists, rest, e, want)
			}
		}
		ask(noughtAhead(), nil, api.ErrForm)
		ask(tooLong(), nil, api.ErrMany)
		if c.pairs {
			ask(nil, noughtAhead(), api.ErrForm)
			ask(nil, tooLong(), api.ErrMany)
			ask(noughtAhead(), tooLong(), api.ErrForm)
			ask(tooLong(), noughtAhead(), api.ErrMany)
		}
	}
	for _, n := range []int{40001, -40001, 0} {
		a, e := Shift(noughtAhead(), n)
		refused(t, "Shift", a, e, api.ErrForm)
		a, e = Shift(tooLong(), n)
		refused(t, "Shift", a, e, api.ErrMany)
		a, e = Root(noughtAhead(), n)
		refused(t, "Root", a, e, api.ErrForm)
		a, e = Root(tooLong(), n)
		refused(t, "Root", a, e, api.ErrMany)
	}
}

func TestA2AddSubMul(t *testing.T) {
	for _, a := range numbers() {
		for _, b := range numbers() {
			x, y, what := toBig(a), toBig(b), " of "+brief(a)+" and "+brief(b)
			sum, e := Add(a, b)
			answer(t, "Add"+what, sum, e, new(big.Int).Add(x, y))
			product, e := Mul(a, b)
			answer(t, "Mul"+what, product, e, new(big.Int).Mul(x, y))
			rest, e := Sub(a, b)
			if x.Cmp(y) < 0 {
				refused(t, "Sub"+what, rest, e, api.ErrRange)
			} else {
				answer(t, "Sub"+what, rest, e, new(big.Int).Sub(x, y))
			}
		}
	}
}

func TestA2Div(t *testing.T) {
	for _, a := range numbers() {
		for _, b := range numbers() {
			q, r, e := Div(a, b)
			what := "Div of " + brief(a) + " by " + brief(b)
			if len(b) == 0 {
				refused(t, what, q, e, api.ErrRange)
				refused(t, what, r, e, api.ErrRange)
				continue
			}
			often, rest := new(big.Int).QuoRem(toBig(a), toBig(b), new(big.Int))
			answer(t, what, q, e, often)
			answer(t, what+", rest", r, e, rest)
		}
	}
}

func TestA2EdgeOfMaxDigits(t *testing.T) {
	full := ones(api.MaxDigits)
	a, e := Add(full, api.Nat{1})
	refused(t, "one more than the greatest", a, e, api.ErrMany)
	a, e = Add(full, nil)
	answer(t, "the greatest and 0", a, e, toBig(full))
	a, e = Mul(ones(600), ones(600))
	answer(t, "a product of 1200 digits", a, e, new(big.Int).Mul(toBig(ones(600)), toBig(ones(600))))
	a, e = Mul(power(600*32), power(600*32-1))
	answer(t, "601 digits and 600 that make 1200", a, e, toBig(power(38399)))
	a, e = Mul(power(600*32), power(600*32))
	refused(t, "a product of 1201 digits", a, e, api.ErrMany)
	a, e = Mul(full, nil)
	answer(t, "the greatest times 0", a, e, new(big.Int))
}

// TestExample1 is the document's: the digits 0, 1 times 3.
func TestExample1(t *testing.T) {
	a, e := Mul(api.Nat{0, 1}, api.Nat{3})
	if s, f := Print(a); e != api.OK || f != api.OK || s != "12884901888" {
		t.Errorf("%q, errors %d and %d", s, e, f)
	}
}

func TestA3Shift(t *testing.T) {
	for _, a := range numbers() {
		for _, n := range []int{0, 1, 5, 31, 32, 33, 63, 64, 100, 1000, 38399, 38400, 40000} {
			up, e := Shift(a, n)
			answer(t, "Shift of "+brief(a), up, e, new(big.Int).Lsh(toBig(a), uint(n)))
			down, e := Shift(a, -n)
			answer(t, "Shift back of "+brief(a), down, e, new(big.Int).Rsh(toBig(a), uint(n)))
		}
		for _, n := range []int{40001, -40001, math.MaxInt, math.MinInt} {
			b, e := Shift(a, n)
			refused(t, "Shift of "+brief(a), b, e, api.ErrRange)
		}
	}
}

func TestA3Root(t *testing.T) {
	for _, a := range numbers() {
		for k := 1; k <= 10; k++ {
			root, e := Root(a, k)
			x, p := toBig(root), big.NewInt(int64(k))
			if e != api.OK || Check(root) != api.OK || new(big.Int).Exp(x, p, nil).Cmp(toBig(a)) > 0 {
				t.Fatalf("root %d of %s: %s, error %d", k, brief(a), brief(root), e)
			}
			if more := new(big.Int).Add(x, big.NewInt(1)); more.Exp(more, p, nil).Cmp(toBig(a)) <= 0 {
				t.Fatalf("root %d of %s: %s is not the greatest", k, brief(a), brief(root))
			}
		}
		for _, k := range []int{0, 11, -1, math.MaxInt, math.MinInt} {
			root, e := Root(a, k)
			refused(t, "Root of "+brief(a), root, e, api.ErrRange)
		}
	}
}

// Next to an exact power the root is decided by the last unit.
func TestA3RootNextToPowers(t *testing.T) {
	one := big.NewInt(1)
	for k := 2; k <= 10; k++ {
		for _, r := range []api.Nat{{1}, {2}, {3}, {10}, {math.MaxUint32}, {0, 1}, {12345, 678}, ones(100)} {
			x := new(big.Int).Exp(toBig(r), big.NewInt(int64(k)), nil)
			exact, e := Read(x.String())
			if e != api.OK {
				t.Fatal("it is not read", e)
			}
			root, e := Root(exact, k)
			answer(t, "root of a power", root, e, toBig(r))
			below, _ := Sub(exact, api.Nat{1})
			root, e = Root(below, k)
			answer(t, "root of one less", root, e, new(big.Int).Sub(toBig(r), one))
		}
	}
}

func TestA4Print(t *testing.T) {
	for _, a := range numbers() {
		if s, e := Print(a); e != api.OK || s != toBig(a).String() {
			t.Errorf("%s: %q, error %d", brief(a), s, e)
		}
	}
}

func TestA4Read(t *testing.T) {
	greatest := toBig(ones(api.MaxDigits))
	for _, s := range []string{"0", "1", "9", "10", "4294967295", "4294967296", "999999999", "1000000000", "18446744073709551616",
		strings.Repeat("123456789", 12), greatest.String()} {
		want, _ := new(big.Int).SetString(s, 10)
		a, e := Read(s)
		answer(t, "Read", a, e, want)
	}
	more := new(big.Int).Add(greatest, big.NewInt(1)).String()
	for _, c := range []struct {
		s    string
		want api.Errno
	}{
		{"", api.ErrForm}, {"00", api.ErrForm}, {"01", api.ErrForm}, {"-1", api.ErrForm}, {"+1", api.ErrForm}, {" 1", api.ErrForm},
		{"1 ", api.ErrForm}, {"1x", api.ErrForm}, {"1\n", api.ErrForm}, {"1\x00", api.ErrForm}, {"1_000", api.ErrForm}, {"1:", api.ErrForm},
		{"1/", api.ErrForm}, {"\u0661", api.ErrForm}, {"\xff", api.ErrForm}, {"0x1", api.ErrForm},
		{more, api.ErrMany}, {strings.Repeat("9", 12000), api.ErrMany},
		{strings.Repeat("9", 11999) + "x", api.ErrForm}, {"0" + strings.Repeat("9", 11999), api.ErrForm},
		{strings.Repeat("1", 12001), api.ErrMany}, {strings.Repeat("x", 12001), api.ErrMany}, {strings.Repeat("0", 12001), api.ErrMany},
	} {
		a, e := Read(c.s)
		refused(t, "Read of "+c.s[:min(len(c.s), 20)], a, e, c.want)
	}
}

func TestA5BackAgain(t *testing.T) {
	for _, a := range numbers() {
		s, _ := Print(a)
		if b, e := Read(s); e != api.OK || !slices.Equal(a, b) {
			t.Errorf("what is printed of %s is read as %s, error %d", brief(a), brief(b), e)
		}
		for _, b := range numbers() {
			if sum, e := Add(a, b); e == api.OK {
				if c, e := Sub(sum, b); e != api.OK || !slices.Equal(a, c) {
					t.Errorf("%s and %s, less that: %s, error %d", brief(a), brief(b), brief(c), e)
				}
			}
			q, r, e := Div(a, b)
			if e != api.OK {
				continue
			}
			product, e1 := Mul(q, b)
			sum, e2 := Add(product, r)
			order, e3 := Compare(r, b)
			if e1 != api.OK || e2 != api.OK || e3 != api.OK || !slices.Equal(a, sum) || order >= 0 {
				t.Errorf("%s by %s, and back: %s", brief(a), brief(b), brief(sum))
			}
		}
	}
}

// P1: whatever is handed in, a call ends and does not panic, and an error stands alone.
func TestP1WhateverIsHandedIn(t *testing.T) {
	list := append(numbers()[:14], noughtAhead(), tooLong(), api.Nat{0}, make(api.Nat, 5000), ones(5000))
	for _, c := range calls() {
		for _, a := range list {
			for _, b := range list {
				if lists, rest, e := c.do(a, b); e != api.OK && !zero(lists, rest) {
					t.Errorf("%s: %v %v beside error %d", c.name, lists, rest, e)
				}
			}
		}
	}
}

// roomy is a copy with spare room behind it, which is filled.
func roomy(a api.Nat) api.Nat {
	b := append(slices.Clone(a), 0xabcd, 0xabcd, 0xabcd, 0xabcd)
	return b[:len(a)]
}

// spoil overwrites a list and the room behind it.
func spoil(a api.Nat) {
	a = a[:cap(a)]
	for i := range a {
		a[i] = ^a[i]
	}
}

func cloneAll(lists []api.Nat) []api.Nat {
	var out []api.Nat
	for _, l := range lists {
		out = append(out, slices.Clone(l))
	}
	return out
}

func equalAll(a, b []api.Nat) bool {
	return slices.EqualFunc(a, b, func(x, y api.Nat) bool { return slices.Equal(x, y) })
}

// P2: arguments are only read and not kept; answers are new, and share no memory. P3: the same again, the same answer.
func TestP2AndP3Memory(t *testing.T) {
	list := []api.Nat{{}, {1}, {7}, {0, 1}, {7, 0, 3}, ones(3), power(200), ones(40)}
	for _, c := range calls() {
		for _, a := range list {
			for _, b := range list {
				x, y := roomy(a), roomy(b)
				wholeX, wholeY := slices.Clone(x[:cap(x)]), slices.Clone(y[:cap(y)])
				lists, rest, e := c.do(x, y)
				told := cloneAll(lists)
				again, restAgain, eAgain := c.do(x, y)
				if !equalAll(told, again) || rest != restAgain || e != eAgain {
					t.Fatalf("%s: not the same each time", c.name)
				}
				for i := range lists {
					spoil(lists[i])
					if !slices.Equal(x[:cap(x)], wholeX) || !slices.Equal(y[:cap(y)], wholeY) {
						t.Fatalf("%s: an argument was changed, or an answer shares its memory", c.name)
					}
					if !equalAll(told[i+1:], lists[i+1:]) || !equalAll(told, again) {
						t.Fatalf("%s: two answers share memory", c.name)
					}
				}
				spoil(x)
				spoil(y)
				if !equalAll(told, again) {
					t.Fatalf("%s: an answer changed with an argument", c.name)
				}
			}
		}
	}
}
