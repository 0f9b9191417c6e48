package digits

import (
	"math/big"
	"strings"
	"testing"
)

// draw: numbers for long tests; the same each time.
type draw uint64

func (d *draw) below(n int) int {
	*d = *d*6364136223846793005 + 1442695040888963407
	return int(uint64(*d) >> 33 % uint64(n))
}

// number of at most n digits, many of them at the ends of what a digit may be: there carries and guesses go wrong.
func (d *draw) number(n int) Number {
	ends := []uint32{0, 1, 1<<31 - 1, 1 << 31, 1<<31 + 1, 1<<32 - 2, 1<<32 - 1}
	a := make(Number, d.below(n+1))
	for i := range a {
		if k := d.below(len(ends) + 2); k < len(ends) {
			a[i] = ends[k]
		} else {
			a[i] = uint32(d.below(1<<16))<<16 | uint32(d.below(1<<16))
		}
	}
	return trim(a)
}

// toBig is a number as the library has it.
func toBig(a Number) *big.Int {
	b := make([]byte, 0, 4*len(a))
	for i := len(a) - 1; i >= 0; i-- {
		b = append(b, byte(a[i]>>24), byte(a[i]>>16), byte(a[i]>>8), byte(a[i]))
	}
	return new(big.Int).SetBytes(b)
}

// same holds an answer against the library's, and asks for its form.
func same(t *testing.T, what string, got Number, want *big.Int, of ...Number) {
	t.Helper()
	if len(got) > 0 && got[len(got)-1] == 0 {
		t.Fatalf("%s of %v: a nought at the upper end of %v", what, of, got)
	}
	if toBig(got).Cmp(want) != 0 {
		t.Fatalf("%s of %v: %v, and must be %x (to the base of 16)", what, of, got, want)
	}
}

func TestPairsAgainstLibrary(t *testing.T) {
	d := draw(1)
	for range 30000 {
		a, b := d.number(9), d.number(5)
		x, y := toBig(a), toBig(b)
		same(t, "Plus", a.Plus(b), new(big.Int).Add(x, y), a, b)
		same(t, "Times", a.Times(b), new(big.Int).Mul(x, y), a, b)
		if got := a.Compare(b); got != x.Cmp(y) {
			t.Fatalf("Compare of %v and %v: %d", a, b, got)
		}
		if x.Cmp(y) >= 0 {
			same(t, "Minus", a.Minus(b), new(big.Int).Sub(x, y), a, b)
		}
		if len(b) > 0 {
			often, rest := a.Over(b)
			q, r := new(big.Int).QuoRem(x, y, new(big.Int))
			same(t, "Over", often, q, a, b)
			same(t, "Over's rest", rest, r, a, b)
		}
	}
}

// What is just below a multiple makes guesses that are too great; noughts behind the first digit make them the greatest.
func TestOverWhereGuessesAreTooGreat(t *testing.T) {
	d := draw(2)
	one := Number{1}
	for range 30000 {
		b, q := d.number(4), d.number(4)
		if len(b) == 0 || len(q) == 0 {
			continue
		}
		a := b.Times(q).Minus(one)
		often, rest := a.Over(b)
		same(t, "Over", often, toBig(q.Minus(one)), a, b)
		same(t, "Over's rest", rest, toBig(b.Minus(one)), a, b)
	}
	a, b := Number{0, 0, 0, 1 << 31}, Number{1, 0, 1 << 31}
	often, rest := a.Over(b)
	same(t, "Over", often, toBig(Number{1<<32 - 1}), a, b)
	same(t, "Over's rest", rest, toBig(a.Minus(b.Times(Number{1<<32 - 1}))), a, b)
}

func TestShiftedBitsTwosPower(t *testing.T) {
	d := draw(3)
	for range 5000 {
		a, n := d.number(6), d.below(200)
		x := toBig(a)
		same(t, "Shifted up", a.Shifted(n), new(big.Int).Lsh(x, uint(n)), a)
		same(t, "Shifted down", a.Shifted(-n), new(big.Int).Rsh(x, uint(n)), a)
		if a.Bits() != x.BitLen() || a.Twos() != int(x.TrailingZeroBits()) || a.Odd() != (x.Bit(0) == 1) {
			t.Fatalf("%v: %d bits, 2 is a factor %d times, odd: %v", a, a.Bits(), a.Twos(), a.Odd())
		}
		k := d.below(5) + d.below(2)*d.below(20)
		same(t, "Power", a.Power(k), new(big.Int).Exp(x, big.NewInt(int64(k)), nil), a)
	}
}

func TestWords(t *testing.T) {
	for _, x := range []uint64{0, 1, 1<<32 - 1, 1 << 32, 1<<32 + 5, 1 << 63, 1<<64 - 1} {
		a := FromWord(x)
		same(t, "FromWord", a, new(big.Int).SetUint64(x), a)
		if a.Word() != x {
			t.Errorf("%d became %d", x, a.Word())
		}
	}
}

func TestRootIsTheGreatest(t *testing.T) {
	d := draw(4)
	for range 3000 {
		a, k := d.number(8), 1+d.below(10)
		root := a.Root(k)
		if root.Power(k).Compare(a) > 0 || root.Plus(Number{1}).Power(k).Compare(a) <= 0 {
			t.Fatalf("root %d of %v: %v", k, a, root)
		}
	}
}

func TestDecimalAgainstLibrary(t *testing.T) {
	d := draw(5)
	for range 5000 {
		a := d.number(8)
		s := a.Decimal()
		if s != toBig(a).String() {
			t.Fatalf("%v: %s", a, s)
		}
		same(t, "FromDecimal", FromDecimal(s), toBig(a), a)
	}
	for n := range 40 {
		s := "1" + strings.Repeat("0", n)
		if got := FromDecimal(s).Decimal(); got != s {
			t.Fatalf("%s became %s", s, got)
		}
	}
}
