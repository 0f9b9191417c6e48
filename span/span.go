// Package span reckons with all numbers from one to another one, of which nobody asks how long they are. Whatever two
// numbers of two spans are, what comes of them is in what comes of the spans. It asks nothing of what it is handed.
package span

import (
	"slipstick/api"
	"slipstick/long"
)

// Span is all numbers from Low to High, with both.
type Span struct{ Low, High long.Dyad }

// Of one number alone.
func Of(x long.Dyad) Span { return Span{x, x} }

// Whole number n alone, which must not be below 0.
func Whole(n int) Span { return Of(long.Whole(n)) }

// Around some numbers (there must be one): the least span that has them all.
func Around(numbers ...long.Dyad) Span {
	s := Of(numbers[0])
	for _, x := range numbers[1:] {
		if x.Compare(s.Low) < 0 {
			s.Low = x
		}
		if x.Compare(s.High) > 0 {
			s.High = x
		}
	}
	return s
}

// Cut both ends to so many bits, outward.
func (s Span) Cut(bits int) Span { return Span{s.Low.Cut(bits, false), s.High.Cut(bits, true)} }

// Short answers a span as a ball, with bare ends, unless one of them needs more than one of api's may have.
func (s Span) Short() (api.Ball, api.Errno) {
	low, e := s.Low.Short()
	if e != api.OK {
		return api.Ball{}, e
	}
	high, e := s.High.Short()
	if e != api.OK {
		return api.Ball{}, e
	}
	return api.Ball{Low: low, High: high}, api.OK
}

// Plus is s and t together.
func (s Span) Plus(t Span) Span { return Span{s.Low.Plus(t.Low), s.High.Plus(t.High)} }

// Opposite of all numbers.
func (s Span) Opposite() Span { return Span{s.High.Opposite(), s.Low.Opposite()} }

// Minus is s less t.
func (s Span) Minus(t Span) Span { return s.Plus(t.Opposite()) }

// Scaled is s times 2 to the power of n.
func (s Span) Scaled(n int) Span { return Span{s.Low.Scaled(n), s.High.Scaled(n)} }

// Times is s times t: the least and the greatest product come of ends.
func (s Span) Times(t Span) Span {
	return Around(s.Low.Times(t.Low), s.Low.Times(t.High), s.High.Times(t.Low), s.High.Times(t.High))
}

// Over is s over t, which must not have 0, by so many bits.
func (s Span) Over(t Span, bits int) Span {
	return Around(s.Low.Over(t.Low, bits), s.Low.Over(t.High, bits), s.High.Over(t.Low, bits), s.High.Over(t.High, bits)).Cut(bits)
}

// Part is s times one whole number over another one, both above 0, by so many bits.
func (s Span) Part(times, over, bits int) Span {
	part := func(x long.Dyad) long.Dyad { return x.Times(long.Whole(times)).Over(long.Whole(over), bits) }
	return Span{part(s.Low), part(s.High)}.Cut(bits)
}

// Root of s, which must have nothing below 0, by so many bits.
func (s Span) Root(bits int) Span { return Span{s.Low.Root(bits), s.High.Root(bits)}.Cut(bits) }
