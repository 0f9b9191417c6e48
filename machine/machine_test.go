package machine

import (
	"math"
	"slices"
	"strings"
	"testing"

	"slipstick/api"
	"slipstick/text"
)

func op(do int) api.Op { return api.Op{Do: do} }

func numbered(do, n int) api.Op { return api.Op{Do: do, Number: n} }

func load(t string) api.Op { return api.Op{Do: api.OpLoad, Text: t} }

func pattern(t string) api.Op { return api.Op{Do: api.OpPattern, Text: t} }

// Patterns of FormatSingle.
const (
	one, two, three, four = "\x3f\x80\x00\x00", "\x40\x00\x00\x00", "\x40\x40\x00\x00", "\x40\x80\x00\x00"
	nought, minusOne      = "\x00\x00\x00\x00", "\xbf\x80\x00\x00"
	infinite, none        = "\x7f\x80\x00\x00", "\x7f\xc0\x00\x00"
	greatest, least       = "\x7f\x7f\xff\xff", "\x00\x00\x00\x01"
	tenth, third          = "\x3d\xcc\xcc\xcd", "\x3e\xaa\xaa\xab"
)

// single is a state of FormatSingle, to the nearest, with some patterns.
func single(stack ...string) api.State {
	return api.State{Format: api.FormatSingle, Way: api.RoundEven, Stack: stack}
}

// full is such a state with so many patterns.
func full(n int) api.State { return single(slices.Repeat([]string{one}, n)...) }

// flagged is such a state with flags and traps.
func flagged(flags, traps int, stack ...string) api.State {
	s := single(stack...)
	s.Flags, s.Traps = flags, traps
	return s
}

// bad is a state, and what Check says of it.
type bad struct {
	what string
	s    api.State
	want api.Errno
}

func states() []bad {
	list := []bad{
		{"nothing at all", api.State{}, api.ErrKind},
		{"two patterns", full(2), api.OK},
		{"none", full(0), api.OK},
		{"as many as there may be", full(16), api.OK},
		{"one more", full(17), api.ErrMany},
		{"very many", full(5000), api.ErrMany},
		{"all flags, all traps", flagged(31, 31, one), api.OK},
		{"a byte too few", single(one, "123"), api.ErrForm},
		{"a byte too many", single("12345", one), api.ErrForm},
		{"no bytes", single(one, ""), api.ErrForm},
		{"patterns of another format", api.State{Format: api.FormatDouble, Way: 1, Stack: []string{one}}, api.ErrForm},
		{"patterns of a format as long", api.State{Format: api.FormatVaxF, Way: 1, Stack: []string{one}}, api.OK},
		// Of two things that are wrong the first one is told.
		{"flags, too many", flagged(32, 0, full(17).Stack...), api.ErrRange},
		{"traps, bytes", flagged(0, -1, "1"), api.ErrRange},
		{"too many, bytes", single(append(full(16).Stack, "1")...), api.ErrMany},
		{"way, flags", api.State{Format: 1, Flags: 32}, api.ErrKind},
		{"way, traps", api.State{Format: 1, Way: 6, Traps: 32}, api.ErrKind},
		{"way, too many", api.State{Format: 1, Way: 6, Stack: full(17).Stack}, api.ErrKind},
		{"format, bytes", api.State{Format: 9, Way: 1, Stack: []string{"1"}}, api.ErrKind},
		{"format, flags", api.State{Way: 1, Flags: -1}, api.ErrKind},
	}
	for _, n := range append([]int{9, 10}, wrongs...) {
		list = append(list, bad{"format", api.State{Format: n, Way: 1}, api.ErrKind}, bad{"way", api.State{Format: 1, Way: n}, api.ErrKind})
	}
	for _, n := range []int{math.MinInt, -1, 32, 63, 1 << 32, math.MaxInt} {
		list = append(list, bad{"flags", flagged(n, 0), api.ErrRange}, bad{"traps", flagged(0, n), api.ErrRange})
	}
	return list
}

func TestL1Check(t *testing.T) {
	for _, l := range states() {
		if e := Check(l.s); e != l.want {
			t.Errorf("%s: error %d, and must be %d", l.what, e, l.want)
		}
	}
	for format := api.FormatSingle; format <= api.FormatVaxG; format++ {
		for way := api.RoundEven; way <= api.RoundDown; way++ {
			s := api.State{Format: format, Way: way, Flags: way, Traps: format, Stack: []string{strings.Repeat("\xff", sizeOf(t, format))}}
			if e := Check(s); e != api.OK {
				t.Errorf("format %d, way %d: error %d", format, way, e)
			}
		}
	}
}

// All others tell what is wrong with a state ahead of what is wrong with all else, and nothing beside it.
func TestL1IsToldFirst(t *testing.T) {
	many := make([]api.Op, 201)
	for _, l := range states() {
		if l.want == api.OK {
			continue
		}
		for _, o := range []api.Op{op(0), load("1"), load("x"), op(api.OpAdd), op(api.OpClear), op(api.OpDrop), numbered(api.OpWay, 9), numbered(api.OpFormat, 1)} {
			if s, e := Step(l.s, o); e != l.want || !isZero(s) {
				t.Errorf("%s: Step: %v, error %d, and must be %d alone", l.what, s, e, l.want)
			}
		}
		for _, list := range [][]api.Op{nil, {load("1")}, many} {
			if s, n, e := Run(l.s, list); e != l.want || !isZero(s) || n != 0 {
				t.Errorf("%s: Run: %v %d, error %d, and must be %d alone", l.what, s, n, e, l.want)
			}
		}
		for _, digits := range []int{0, 1, 61} {
			if list, e := Show(l.s, digits); e != l.want || len(list) != 0 {
				t.Errorf("%s: Show: %q, error %d, and must be %d alone", l.what, list, e, l.want)
			}
		}
	}
}

// line of a table: a state, an operation, and what comes.
type line struct {
	what string
	s    api.State
	o    api.Op
	want api.State
	e    api.Errno
}

func (l line) check(t *testing.T) {
	t.Helper()
	if got, e := Step(l.s, l.o); !same(got, l.want) || e != l.e {
		t.Errorf("%s: %x, error %d, and must be %x, error %d", l.what, got, e, l.want, l.e)
	}
}

const inexact, under, over, zero, invalid = api.FlagInexact, api.FlagUnder, api.FlagOver, api.FlagZero, api.FlagInvalid

// Each operation with just enough patterns, and with more; the lower pattern is always the first one.
func TestL2Operations(t *testing.T) {
	by := func(way int, s api.State) api.State { s.Way = way; return s }
	for _, l := range []line{
		{"load", single(), load("3"), single(three), 0},
		{"load on others", single(one), load("0.1"), flagged(inexact, 0, one, tenth), 0},
		{"load by the way", by(api.RoundUp, single()), load("-0.1"), by(api.RoundUp, flagged(inexact, 0, "\xbd\xcc\xcc\xcc")), 0},
		{"pattern", single(), pattern(none), single(none), 0},
		{"pattern as it is, though Encode makes another one", single(two), pattern("\xff\x80\x00\x01"), single(two, "\xff\x80\x00\x01"), 0},
		{"add", single(one, two), op(api.OpAdd), single(three), 0},
		{"sub", single(four, one, two), op(api.OpSub), single(four, minusOne), 0},
		{"mul", single(two, two), op(api.OpMul), single(four), 0},
		{"div", single(one, four, two), op(api.OpDiv), single(one, two), 0},
		{"div, not exact", single(one, three), op(api.OpDiv), flagged(inexact, 0, third), 0},
		{"div by 0", single(one, nought), op(api.OpDiv), flagged(zero, 0, infinite), 0},
		{"sqrt", single(one, four), op(api.OpSqrt), single(one, two), 0},
		{"sqrt below 0", single(minusOne), op(api.OpSqrt), flagged(invalid, 0, none), 0},
		{"fused: the first times the second, and the third", single(two, one, three, one), op(api.OpFused), single(two, four), 0},
		{"fused, just enough", single(three, one, minusOne), op(api.OpFused), single(two), 0},
		{"call", single(three, nought), numbered(api.OpCall, api.KindExp), single(three, one), 0},
		{"call of another kind", single(two), numbered(api.OpCall, api.KindExp2), single(four), 0},
		{"call by the way", by(api.RoundUp, single(least)), numbered(api.OpCall, api.KindExp), by(api.RoundUp, flagged(inexact, 0, "\x3f\x80\x00\x01")), 0},
		{"swap", single(four, one, two), op(api.OpSwap), single(four, two, one), 0},
		{"swap two", single(one, two), op(api.OpSwap), single(two, one), 0},
		{"copy", single(two, one), op(api.OpCopy), single(two, one, one), 0},
		{"drop", single(two, one), op(api.OpDrop), single(two), 0},
		{"drop all", single(two), op(api.OpDrop), single(), 0},
		{"way", single(one), numbered(api.OpWay, api.RoundDown), by(api.RoundDown, single(one)), 0},
		{"trap", flagged(3, 4, one), numbered(api.OpTrap, 31), flagged(3, 31, one), 0},
		{"no traps any more", flagged(3, 4, one), numbered(api.OpTrap, 0), flagged(3, 0, one), 0},
		{"clear", flagged(31, 5, one), op(api.OpClear), flagged(0, 5, one), 0},
		{"format", single(one, two), numbered(api.OpFormat, api.FormatVaxF), api.State{Format: api.FormatVaxF, Way: 1, Stack: []string{"\x80\x40\x00\x00", "\x00\x41\x00\x00"}}, 0},
		{"format without patterns", single(), numbered(api.OpFormat, api.FormatHexLong), api.State{Format: api.FormatHexLong, Way: 1}, 0},
		{"the same format", single(one, "\xff\x80\x00\x01"), numbered(api.OpFormat, api.FormatSingle), single(one, none), 0},
	} {
		l.check(t)
	}
}

// A number whose power of e is less than 1 and 2 to the power of -61, by no more than 2 to the power of -184.
func TestL2CallByManyBits(t *testing.T) {
	extended := func(way, flags int, s string) api.State {
		return api.State{Format: api.FormatExtended, Way: way, Flags: flags, Stack: []string{s}}
	}
	const x, above, below = "\xfc\xff\xff\xff\xff\xff\xff\xff\xc1\x3f", "\x04\x00\x00\x00\x00\x00\x00\x80\xff\x3f", "\x03\x00\x00\x00\x00\x00\x00\x80\xff\x3f"
	for way, want := range map[int]string{api.RoundEven: above, api.RoundAway: above, api.RoundZero: below, api.RoundUp: above, api.RoundDown: below} {
		line{"call", extended(way, 0, x), numbered(api.OpCall, api.KindExp), extended(way, inexact, want), 0}.check(t)
	}
}

func TestL2Errors(t *testing.T) {
	for _, l := range []line{
		{"no numeral", single(one), load("x"), single(one), api.ErrForm},
		{"too long a numeral", single(one), load(strings.Repeat("1", 401)), single(one), api.ErrMany},
		{"a power too great", single(one), load("1e6001"), single(one), api.ErrRange},
		{"a pattern too short", single(one), pattern("123"), single(one), api.ErrForm},
		{"a pattern too long", single(one), pattern("12345"), single(one), api.ErrForm},
		{"no pattern", single(one), pattern(""), single(one), api.ErrForm},
		{"no kind", single(one), numbered(api.OpCall, 10), single(one), api.ErrKind},
		{"no kind", single(one), numbered(api.OpCall, 0), single(one), api.ErrKind},
		{"no way", single(one), numbered(api.OpWay, 6), single(one), api.ErrKind},
		{"no way", single(one), numbered(api.OpWay, 0), single(one), api.ErrKind},
		{"no traps", flagged(1, 2, one), numbered(api.OpTrap, 32), flagged(1, 2, one), api.ErrRange},
		{"no traps", flagged(1, 2, one), numbered(api.OpTrap, -1), flagged(1, 2, one), api.ErrRange},
		{"no format", single(one), numbered(api.OpFormat, 9), single(one), api.ErrKind},
		{"no format, and no pattern", single(), numbered(api.OpFormat, 0), single(), api.ErrKind},
		// Of two errors the first one is told.
		{"no pattern, and no kind", single(), numbered(api.OpCall, 10), single(), api.ErrNone},
		{"no numeral, and no room", full(16), load("x"), full(16), api.ErrForm},
		{"a pattern too short, and no room", full(16), pattern("1"), full(16), api.ErrForm},
	} {
		l.check(t)
	}
	for _, n := range wrongs {
		line{"no operation", full(3), numbered(n, 1), full(3), api.ErrKind}.check(t)
		line{"no operation, and no pattern", single(), numbered(n, 1), single(), api.ErrKind}.check(t)
	}
	great := api.State{Format: api.FormatExtended, Way: 2, Flags: 1, Stack: []string{"\x00\x00\x00\x00\x00\x00\x00\x80\xaf\x44"}}
	line{"too great an angle", great, numbered(api.OpCall, api.KindSin), great, api.ErrMany}.check(t)
}

func TestL2TooFewPatterns(t *testing.T) {
	for do := api.OpLoad; do <= api.OpTrap; do++ {
		few, _ := needs(do)
		for n := range 16 {
			o := api.Op{Do: do, Number: 1, Text: map[bool]string{true: "1", false: one}[do == api.OpLoad]}
			s, e := Step(full(n), o)
			switch {
			case n < few && (e != api.ErrNone || !same(s, full(n))):
				t.Errorf("operation %d with %d patterns: %v, error %d", do, n, s, e)
			case n >= few && e != api.OK:
				t.Errorf("operation %d with %d patterns: error %d", do, n, e)
			}
		}
	}
}

func TestL2FullStack(t *testing.T) {
	for _, l := range []line{
		{"load", full(16), load("1"), full(16), api.ErrMany},
		{"load, not exact", full(16), load("0.1"), full(16), api.ErrMany},
		{"pattern", full(16), pattern(one), full(16), api.ErrMany},
		{"copy", full(16), op(api.OpCopy), full(16), api.ErrMany},
		{"load the last", full(15), load("1"), full(16), 0},
		{"the last pattern", full(15), pattern(one), full(16), 0},
		{"copy to the last", full(15), op(api.OpCopy), full(16), 0},
		{"mul", full(16), op(api.OpMul), full(15), 0},
		{"sqrt", full(16), op(api.OpSqrt), full(16), 0},
		{"call", full(16), numbered(api.OpCall, api.KindLog), single(append(full(15).Stack, nought)...), 0},
		{"fused", full(16), op(api.OpFused), single(append(full(13).Stack, two)...), 0},
		{"swap", full(16), op(api.OpSwap), full(16), 0},
		{"drop", full(16), op(api.OpDrop), full(15), 0},
		{"format", full(16), numbered(api.OpFormat, api.FormatSingle), full(16), 0},
	} {
		l.check(t)
	}
	trapped := full(16)
	trapped.Traps = 31
	line{"no room, and a trap", trapped, load("0.1"), trapped, api.ErrMany}.check(t)
}

func TestL3FlagsAndTraps(t *testing.T) {
	const tiny = under + inexact
	for _, l := range []line{
		// Each flag, told and not trapped; trapped.
		{"inexact", flagged(0, 30, one, three), op(api.OpDiv), flagged(inexact, 30, third), 0},
		{"inexact, trapped", flagged(0, inexact, one, three), op(api.OpDiv), flagged(inexact, inexact, one, three), api.ErrState},
		{"under", flagged(0, 28, least, tenth), op(api.OpMul), flagged(tiny, 28, nought), 0},
		{"under, trapped", flagged(0, under, least, tenth), op(api.OpMul), flagged(tiny, under, least, tenth), api.ErrState},
		{"over", flagged(0, 26, greatest, two), op(api.OpMul), flagged(over+inexact, 26, infinite), 0},
		{"over, trapped", flagged(0, over, greatest, two), op(api.OpMul), flagged(over+inexact, over, greatest, two), api.ErrState},
		{"over, and inexact trapped", flagged(0, inexact, greatest, two), op(api.OpMul), flagged(over+inexact, inexact, greatest, two), api.ErrState},
		{"zero", flagged(0, 23, one, nought), op(api.OpDiv), flagged(zero, 23, infinite), 0},
		{"zero, trapped", flagged(0, zero, one, nought), op(api.OpDiv), flagged(zero, zero, one, nought), api.ErrState},
		{"invalid", flagged(0, 15, minusOne), op(api.OpSqrt), flagged(invalid, 15, none), 0},
		{"invalid, trapped", flagged(0, invalid, minusOne), op(api.OpSqrt), flagged(invalid, invalid, minusOne), api.ErrState},
		{"invalid, all trapped", flagged(0, 31, minusOne), numbered(api.OpCall, api.KindLog), flagged(invalid, 31, minusOne), api.ErrState},
		{"load, trapped", flagged(0, inexact, one), load("0.1"), flagged(inexact, inexact, one), api.ErrState},
		{"fused, trapped", flagged(8, invalid, infinite, nought, one), op(api.OpFused), flagged(8+invalid, invalid, infinite, nought, one), api.ErrState},
		// Flags that were set before stay, and trap nothing.
		{"set before", flagged(zero+under, 0, one, three), op(api.OpDiv), flagged(zero+under+inexact, 0, third), 0},
		{"set before and trapped, but not told", flagged(31, 30, one, three), op(api.OpDiv), flagged(31, 30, third), 0},
		{"set before and trapped, and nothing is told", flagged(31, 31, one, two), op(api.OpAdd), flagged(31, 31, three), 0},
		{"set before, told again, trapped", flagged(1, 1, one, three), op(api.OpDiv), flagged(1, 1, one, three), api.ErrState},
		{"what is set is trapped from now on", flagged(1, 0, one), numbered(api.OpTrap, 1), flagged(1, 1, one), 0},
		{"an error, flags set", flagged(5, 31, one), op(api.OpAdd), flagged(5, 31, one), api.ErrNone},
		{"clear, all trapped", flagged(31, 31, one), op(api.OpClear), flagged(0, 31, one), 0},
	} {
		l.check(t)
	}
}

// OpFormat converts all patterns, or none; the flags of all are told.
func TestL3Format(t *testing.T) {
	to := numbered(api.OpFormat, api.FormatSingle)
	double := func(flags, traps int, stack ...string) api.State {
		return api.State{Format: api.FormatDouble, Way: 1, Flags: flags, Traps: traps, Stack: stack}
	}
	const unit, part, great = "\x3f\xf0\x00\x00\x00\x00\x00\x00", "\x3f\xb9\x99\x99\x99\x99\x99\x9a", "\x7f\xe0\x00\x00\x00\x00\x00\x00"
	for _, l := range []line{
		{"nothing told", double(8, 31, unit, unit), to, flagged(8, 31, one, one), 0},
		{"told in the middle", double(0, 0, unit, part, unit), to, flagged(inexact, 0, one, tenth, one), 0},
		{"told of two", double(16, 0, part, unit, great), to, flagged(16+inexact+over, 0, tenth, one, infinite), 0},
		{"trapped in the middle", double(8, inexact, unit, part, unit), to, double(8+inexact, inexact, unit, part, unit), api.ErrState},
		{"trapped first", double(0, inexact, part, unit, unit), to, double(inexact, inexact, part, unit, unit), api.ErrState},
		{"trapped last, told before", double(0, over, part, unit, great), to, double(inexact+over, over, part, unit, great), api.ErrState},
		{"trapped first, told behind", double(0, inexact, part, great, unit), to, double(inexact+over, inexact, part, great, unit), api.ErrState},
		{"told, and another one trapped", double(0, over, part, unit), to, flagged(inexact, over, tenth, one), 0},
	} {
		l.check(t)
	}
	vax := numbered(api.OpFormat, api.FormatVaxF)
	line{"no such value", flagged(0, 0, one, infinite), vax, api.State{Format: api.FormatVaxF, Way: 1, Flags: invalid, Stack: []string{"\x80\x40\x00\x00", "\x00\x80\x00\x00"}}, 0}.check(t)
	line{"no such value, trapped", flagged(0, invalid, one, infinite), vax, flagged(invalid, invalid, one, infinite), api.ErrState}.check(t)
}

func TestL4Example(t *testing.T) {
	s, n, e := Run(single(), []api.Op{load("2"), op(api.OpCopy), op(api.OpMul)})
	if !same(s, single(four)) || n != 3 || e != api.OK {
		t.Errorf("%v %d, error %d", s, n, e)
	}
}

func TestL4Run(t *testing.T) {
	list := []api.Op{load("1"), load("3"), op(api.OpDiv), op(api.OpCopy)}
	for _, c := range []struct {
		what string
		s    api.State
		list []api.Op
		want api.State
		n    int
		e    api.Errno
	}{
		{"nothing", flagged(3, 4, one), nil, flagged(3, 4, one), 0, 0},
		{"all", single(), list, flagged(inexact, 0, third, third), 4, 0},
		{"an error first", single(two), append([]api.Op{op(api.OpAdd)}, list...), single(two), 0, api.ErrNone},
		{"an error in the middle", single(), append(slices.Clone(list), op(17), op(api.OpDrop)), flagged(inexact, 0, third, third), 4, api.ErrKind},
		{"a trap in the middle", flagged(zero, inexact), list, flagged(zero+inexact, inexact, one, three), 2, api.ErrState},
		{"a trap set on the way", single(), append([]api.Op{load("0.1"), numbered(api.OpTrap, 1)}, list...), flagged(inexact, inexact, tenth, one, three), 4, api.ErrState},
		{"no room", full(15), list, full(16), 1, api.ErrMany},
		{"too many", single(), make([]api.Op, 201), api.State{}, 0, api.ErrMany},
		{"very many", single(), make([]api.Op, 100000), api.State{}, 0, api.ErrMany},
		{"as many as there may be", single(one), slices.Repeat([]api.Op{op(api.OpSqrt)}, 200), single(one), 200, 0},
		{"one more, all fine", single(one), slices.Repeat([]api.Op{op(api.OpSqrt)}, 201), api.State{}, 0, api.ErrMany},
		{"the last of all is wrong", single(one), append(slices.Repeat([]api.Op{op(api.OpSqrt)}, 199), op(api.OpAdd)), single(one), 199, api.ErrNone},
	} {
		if s, n, e := Run(c.s, c.list); !same(s, c.want) || n != c.n || e != c.e {
			t.Errorf("%s: %v %d, error %d, and must be %v %d, error %d", c.what, s, n, e, c.want, c.n, c.e)
		}
	}
}

func TestL4Show(t *testing.T) {
	s := single(tenth, nought, "\x80\x00\x00\x00", infinite, "\xff\x80\x00\x00", none, minusOne)
	for digits, want := range map[int][]string{
		1: {"1e-1", "0", "-0", "inf", "-inf", "none", "-1e0"},
		3: {"1.00e-1", "0", "-0", "inf", "-inf", "none", "-1.00e0"},
		9: {"1.00000001e-1", "0", "-0", "inf", "-inf", "none", "-1.00000000e0"},
	} {
		if list, e := Show(s, digits); !slices.Equal(list, want) || e != api.OK {
			t.Errorf("%d digits: %q, error %d", digits, list, e)
		}
	}
	list, e := Show(s, 60)
	for i, p := range s.Stack {
		if want, _ := text.Print(s.Format, p, 60); e != api.OK || list[i] != want {
			t.Errorf("60 digits: %q, error %d", list, e)
		}
	}
	for _, s := range []api.State{s, single()} {
		for _, digits := range []int{math.MinInt, -1, 0, 61, 1<<32 + 1, math.MaxInt} {
			if list, e := Show(s, digits); e != api.ErrRange || len(list) != 0 {
				t.Errorf("%d digits: %q, error %d", digits, list, e)
			}
		}
	}
	for _, digits := range []int{1, 60} {
		if list, e := Show(single(), digits); e != api.OK || len(list) != 0 {
			t.Errorf("%d digits of nothing: %q, error %d", digits, list, e)
		}
	}
	vax := api.State{Format: api.FormatVaxF, Way: 1, Stack: []string{"\x80\x40\x00\x00", "\x00\x80\x00\x00"}}
	if list, e := Show(vax, 2); !slices.Equal(list, []string{"1.0e0", "reserved"}) || e != api.OK {
		t.Errorf("%q, error %d", list, e)
	}
}
