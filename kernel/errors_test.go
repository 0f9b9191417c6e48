package kernel

import (
	"math"
	"math/big"
	"reflect"
	"slices"
	"testing"

	"slipstick/api"
)

func calls() map[string]func(api.Dyad, int) (api.Ball, api.Errno) {
	return map[string]func(api.Dyad, int) (api.Ball, api.Errno){"Exp": Exp, "Log": Log, "Sin": Sin, "Cos": Cos, "Arctan": Arctan}
}

// wrongs are dyads with which something is wrong, each with what is to be told.
func wrongs() map[api.Errno][]api.Dyad {
	ones := slices.Repeat(api.Nat{math.MaxUint32}, 1201)
	return map[api.Errno][]api.Dyad{
		api.ErrForm:  {{Mantissa: api.Nat{0}}, {Neg: true, Mantissa: api.Nat{1, 0}, Exp: 20001}, {Mantissa: append(slices.Clone(ones), 0)}},
		api.ErrMany:  {{Mantissa: ones}, {Neg: true, Mantissa: ones, Exp: math.MaxInt}},
		api.ErrRange: {small(1, 20001), small(0, 20001), small(-1, -20001), small(0, math.MinInt), small(5, math.MaxInt)},
	}
}

func TestJ1WrongNumbersAreToldFirst(t *testing.T) {
	for want, list := range wrongs() {
		for _, x := range list {
			for _, bits := range []int{math.MinInt, 0, 19, 20, 600, 601, math.MaxInt} {
				for name, call := range calls() {
					got, e := call(x, bits)
					refused(t, name, got, e, want)
				}
			}
		}
	}
}

// Wrong bits are told ahead of an x that is too long, too great, or has no answer, and of one with a value of bits.
func TestJ1WrongBits(t *testing.T) {
	for _, x := range []api.Dyad{{}, small(1, 0), small(-3, 0), small(1, -18001), dyadOf(less(1201), 0), small(12001, 0), small(1, 1200), small(-1, 20000)} {
		for _, bits := range []int{math.MinInt, -20, 0, 1, 19, 601, 1000, 1<<32 + 20, math.MaxInt} {
			for name, call := range calls() {
				got, e := call(x, bits)
				refused(t, name, got, e, api.ErrRange)
			}
		}
	}
}

// An x that is too long, or whose Exp is too low, is told ahead of one that is below 0, or too great.
func TestJ1TooLong(t *testing.T) {
	for _, x := range []api.Dyad{small(1, -18001), small(-1, -18001), small(1, -20000), small(-5, -20000), dyadOf(more(1200), 0),
		dyadOf(more(1200), -1200), dyadOf(new(big.Int).Neg(less(1201)), 20000), dyadOf(more(38000), -18000), dyadOf(less(19), -18001)} {
		for name, call := range calls() {
			got, e := call(x, 20)
			refused(t, name, got, e, api.ErrMany)
		}
	}
	// Only the bare x counts, whatever its form is.
	for _, x := range []api.Dyad{small(2, -18001), dyadOf(power(2000), -20000), dyadOf(new(big.Int).Lsh(less(1200), 2000), -20000),
		dyadOf(new(big.Int).Lsh(less(1200), 18000), -19210), dyadOf(less(1200), -1200)} {
		for name, call := range calls() {
			if got, e := call(x, 20); e != api.OK || !narrow(got, 20) {
				t.Errorf("%s of %v: %v, error %d", name, x, got, e)
			}
		}
	}
}

func TestJ1TooGreat(t *testing.T) {
	little := new(big.Int).Lsh(big.NewInt(12000), 1186)
	for _, x := range []api.Dyad{small(12001, 0), small(24001, -1), dyadOf(little.Add(little, big.NewInt(1)), -1186), small(1, 14),
		small(1, 1199), small(1, 20000), dyadOf(power(38399), 20000)} {
		for _, y := range []api.Dyad{x, opposite(x)} {
			got, e := Exp(y, 600)
			refused(t, "Exp", got, e, api.ErrMany)
		}
	}
	for _, x := range []api.Dyad{small(1, 1200), small(2, 1199), dyadOf(power(1200), 0), dyadOf(more(1199), 1), dyadOf(less(1200), 1), small(1, 20000), dyadOf(power(38399), 20000)} {
		for _, y := range []api.Dyad{x, opposite(x)} {
			got, e := Sin(y, 20)
			refused(t, "Sin", got, e, api.ErrMany)
			got, e = Cos(y, 20)
			refused(t, "Cos", got, e, api.ErrMany)
		}
	}
}

func TestJ1LogOfWhatIsNotAboveZero(t *testing.T) {
	for _, x := range []api.Dyad{{}, {Neg: true}, {Exp: -20000}, small(-1, 0), small(-1, -18000), small(-1, 20000), dyadOf(new(big.Int).Neg(less(1200)), 3)} {
		for _, bits := range []int{20, 600} {
			got, e := Log(x, bits)
			refused(t, "Log", got, e, api.ErrNone)
		}
	}
}

func TestP1WhateverIsHandedIn(t *testing.T) {
	list := []api.Dyad{{}, small(1, 0), small(-1, 20000), dyadOf(less(38400), 20000), dyadOf(less(38400), -20000), dyadOf(power(38399), -20000),
		dyadOf(new(big.Int).Neg(power(38399)), 20000), small(2, -20000), small(0, -20000)}
	for _, wrong := range wrongs() {
		list = append(list, wrong...)
	}
	for _, x := range list {
		for _, bits := range []int{math.MinInt, -1, 0, 20, 600, 4096, math.MaxInt} {
			for name, call := range calls() {
				if got, e := call(x, bits); e != api.OK {
					refused(t, name, got, e, e)
				}
			}
		}
	}
}

// spoil all the room that a list has.
func spoil(m api.Nat) {
	m = m[:cap(m)]
	for i := range m {
		m[i] = 0xbad
	}
}

func TestP2AndP3Memory(t *testing.T) {
	for _, x := range []api.Dyad{{}, small(1, 0), small(3, -2), dyadOf(big.NewInt(1<<40+1), -38), small(1, -9000), small(355, 0)} {
		for name, call := range calls() {
			room := append(slices.Clone(x.Mantissa), 77, 78)
			given := x
			given.Mantissa = room[:len(x.Mantissa)]
			first, e := call(given, 100)
			if !reflect.DeepEqual(room, append(slices.Clone(x.Mantissa), 77, 78)) {
				t.Fatalf("%s of %v changed what it was handed", name, x)
			}
			kept := api.Ball{Low: first.Low, High: first.High}
			kept.Low.Mantissa, kept.High.Mantissa = slices.Clone(first.Low.Mantissa), slices.Clone(first.High.Mantissa)
			spoil(room)
			if !same(first, kept) {
				t.Fatalf("%s of %v: the answer changed with what was handed in", name, x)
			}
			spoil(first.Low.Mantissa)
			if !slices.Equal(first.High.Mantissa, kept.High.Mantissa) {
				t.Fatalf("%s of %v: both ends share memory", name, x)
			}
			spoil(first.High.Mantissa)
			if again, f := call(x, 100); e != f || !same(again, kept) {
				t.Fatalf("%s of %v: another answer the next time", name, x)
			}
		}
	}
}
