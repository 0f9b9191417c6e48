package machine

import (
	"math"
	"slices"
	"testing"

	"slipstick/api"
	"slipstick/codec"
)

// numerals to be loaded: some are none, and some are too great, too small, or not exact.
var numerals = []string{"0", "1", "-1", "2", "3", "0.5", "0.1", "-7.25", "1e10", "1e-10", "1e38", "1e39", "-1e-39", "1e-46", "1e300", "1e-300", "1e5000", "-1e-5000",
	"100", "12345678901234567890", "x", "", "1e99999"}

// pattern of so many bytes: any, but often with bytes at the ends of what a byte may be.
func (d *draw) pattern(size int) string {
	ends := []byte{0, 0, 1, 0x10, 0x3f, 0x40, 0x41, 0x7f, 0x80, 0xc0, 0xff, 0xff}
	b := make([]byte, size)
	for i := range b {
		if b[i] = byte(d.below(256)); d.below(2) == 0 {
			b[i] = ends[d.below(len(ends))]
		}
	}
	return string(b)
}

// op of any kind, mostly one that can be done.
func (d *draw) op(format int) api.Op {
	o := api.Op{Do: 1 + d.below(16), Number: d.below(11), Text: numerals[d.below(len(numerals))]}
	size, _ := codec.Size(format)
	switch {
	case d.below(40) == 0:
		o.Do = wrongs[d.below(len(wrongs))]
	case d.below(4) == 0:
		o.Do = api.OpLoad
	case d.below(4) == 0:
		o.Do = api.OpPattern
	}
	switch {
	case o.Do == api.OpPattern && d.below(12) > 0:
		o.Text = d.pattern(size)
	case o.Do == api.OpTrap:
		// Few traps, so that much is done.
		o.Number = []int{0, 0, 0, 1, 2, 4, 8, 16, 24, 31, 32, -1}[d.below(12)]
	}
	return o
}

// state of any format.
func (d *draw) state(t *testing.T, format int) api.State {
	t.Helper()
	s := api.State{Format: format, Way: 1 + d.below(5), Flags: d.below(32)}
	if d.below(3) == 0 {
		s.Traps = d.below(32)
	}
	for range d.below(17) {
		s.Stack = append(s.Stack, d.pattern(sizeOf(t, format)))
	}
	return s
}

func TestL2AndL3Drawn(t *testing.T) {
	errors := map[api.Errno]int{}
	for format := api.FormatSingle; format <= api.FormatVaxG; format++ {
		d := draw(format)
		for range 4000 {
			s := d.state(t, format)
			o := d.op(format)
			want, wanted := stepped(s, o)
			got, e := Step(s, o)
			if !same(got, want) || e != wanted {
				t.Fatalf("%v of %x: %x, error %d, and must be %x, error %d", o, s, got, e, want, wanted)
			}
			errors[e]++
			if e := Check(got); e != api.OK {
				t.Fatalf("%v of %x: %x fails Check: %d", o, s, got, e)
			}
		}
	}
	for _, e := range []api.Errno{api.OK, api.ErrForm, api.ErrMany, api.ErrRange, api.ErrState, api.ErrNone, api.ErrKind} {
		if errors[e] == 0 {
			t.Errorf("error %d was never told", e)
		}
	}
}

// Whoever runs two lists runs them one behind the other; flags that are set stay set; and a state goes on passing Check.
func TestL5(t *testing.T) {
	for format := api.FormatSingle; format <= api.FormatVaxG; format++ {
		d := draw(100 + format)
		for range 500 {
			s := d.state(t, format)
			var list []api.Op
			for range 12 {
				list = append(list, d.op(format))
			}
			all, n, e := Run(s, list)
			now, done, err := s, 0, api.OK
			for i, o := range list {
				before := now.Flags
				if now, err = Step(now, o); now.Flags&before != before && o.Do != api.OpClear {
					t.Fatalf("%v of %x: flags %d are not %d any more", o, s, now.Flags, before)
				}
				if bad := Check(now); bad != api.OK {
					t.Fatalf("%v of %x: %x fails Check: %d", o, s, now, bad)
				}
				if err != api.OK {
					break
				}
				done = i + 1
			}
			if !same(all, now) || n != done || e != err {
				t.Fatalf("%v of %x: %x %d, error %d, and must be %x %d, error %d", list, s, all, n, e, now, done, err)
			}
			split := d.below(len(list) + 1)
			first, m, e1 := Run(s, list[:split])
			if e1 != api.OK {
				if !same(first, all) || m != n || e1 != e {
					t.Fatalf("%v of %x: %x %d, error %d", list[:split], s, first, m, e1)
				}
				continue
			}
			if second, k, e2 := Run(first, list[split:]); !same(second, all) || m+k != n || e2 != e {
				t.Fatalf("%v of %x, in two: %x %d, error %d, and must be %x %d, error %d", list, s, second, m+k, e2, all, n, e)
			}
		}
	}
}

func TestP1WhateverIsHandedIn(t *testing.T) {
	numbers := []int{math.MinInt, -1, 0, 1, 5, 8, 9, 16, 31, 32, math.MaxInt}
	for _, format := range numbers {
		for _, n := range numbers {
			for _, stack := range [][]string{nil, {}, {""}, {one}, {one, one, one}, {"12345678", "12345678"}, make([]string, 16), make([]string, 17)} {
				s := api.State{Format: format, Way: n, Flags: n, Traps: n, Stack: stack}
				bad := Check(s)
				for _, do := range append(slices.Clone(numbers), 2, 3, 4, 6, 7, 9, 10, 11, 12, 13, 14, 15) {
					for _, x := range []string{"", "1", one} {
						o := api.Op{Do: do, Number: n, Text: x}
						got, e := Step(s, o)
						if bad != api.OK && (e != bad || !isZero(got)) || bad == api.OK && Check(got) != api.OK {
							t.Fatalf("%v of %v: %v, error %d", o, s, got, e)
						}
						got, done, e := Run(s, []api.Op{o, o})
						if bad != api.OK && (e != bad || !isZero(got) || done != 0) || done < 0 || done > 2 || (done == 2) != (e == api.OK) {
							t.Fatalf("twice %v of %v: %v %d, error %d", o, s, got, done, e)
						}
					}
				}
				if list, e := Show(s, n); e != api.OK && len(list) != 0 || e == api.OK && len(list) != len(stack) {
					t.Fatalf("%v: %q, error %d", s, list, e)
				}
			}
		}
	}
}

// roomy is a state whose list of patterns has room behind it.
func roomy(flags, traps int, stack ...string) (api.State, []string) {
	room := append(slices.Clone(stack), "spare", "room")
	return flagged(flags, traps, room[:len(stack)]...), room
}

// Whatever is done, well or not, what was handed in stays as it was, and shares nothing with what comes.
func TestP2AndP3Memory(t *testing.T) {
	ops := []api.Op{load("1"), load("x"), pattern(two), numbered(api.OpCall, 1), numbered(api.OpCall, 99), numbered(api.OpWay, 2), numbered(api.OpTrap, 4), numbered(api.OpTrap, 99),
		numbered(api.OpFormat, 4), numbered(api.OpFormat, 9), op(99)}
	for do := api.OpAdd; do <= api.OpClear; do++ {
		ops = append(ops, op(do))
	}
	for i, traps := range []int{0, 31, 0, 31} {
		stack := []string{third, one, three}[:3-i/2*2] // of one pattern alone most operations have too few
		for _, o := range ops {
			s, room := roomy(0, traps, stack...)
			kept := slices.Clone(room)
			list := append([]api.Op{o, o}, op(99))
			first, e := Step(s, o)
			then, done, f := Run(s, list[:2])
			shown, g := Show(s, 5)
			if !slices.Equal(room, kept) || list[2] != op(99) || list[0] != o {
				t.Fatalf("%v changed what it was handed", o)
			}
			answers := []api.State{first, then}
			copies := []api.State{copied(first), copied(then)}
			for i := range room {
				room[i] = "spoilt"
			}
			for i := range list {
				list[i] = op(-1)
			}
			for i, a := range answers {
				if !same(a, copies[i]) {
					t.Fatalf("%v: the answer changed with what was handed in", o)
				}
				for j := range a.Stack[:cap(a.Stack)] {
					a.Stack[:cap(a.Stack)][j] = "spoilt"
				}
			}
			s, _ = roomy(0, traps, stack...)
			if still, _, _ := Run(s, nil); &still.Stack[0] == &s.Stack[0] {
				t.Fatal("Run of nothing hands out what it was handed")
			}
			again, e1 := Step(s, o)
			twice, m, f1 := Run(s, []api.Op{o, o})
			others, g1 := Show(s, 5)
			if e != e1 || f != f1 || done != m || g != g1 || !same(again, copies[0]) || !same(twice, copies[1]) || !slices.Equal(shown, others) {
				t.Fatalf("%v: another answer the next time", o)
			}
		}
	}
}
