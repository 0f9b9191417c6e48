package machine

import (
	"math"
	"slices"
	"testing"

	"slipstick/api"
	"slipstick/arith"
	"slipstick/codec"
	"slipstick/conv"
	"slipstick/elem"
	"slipstick/text"
)

// What the chapter says, word for word, for the tests to hold the calls against. (That the calls of other chapters answer
// rightly, their own tests ask.)

// draw: numbers for long tests; the same each time.
type draw uint64

func (d *draw) below(n int) int {
	*d = *d*6364136223846793005 + 1442695040888963407
	return int(uint64(*d) >> 33 % uint64(n))
}

// wrongs are numbers that are no format, no way and no operation.
var wrongs = []int{math.MinInt, -1, 0, 17, 1 << 32, 1<<32 + 1, math.MaxInt}

func sizeOf(t *testing.T, format int) int {
	t.Helper()
	n, e := codec.Size(format)
	if e != api.OK {
		t.Fatal(e)
	}
	return n
}

func same(a, b api.State) bool {
	return a.Format == b.Format && a.Way == b.Way && a.Flags == b.Flags && a.Traps == b.Traps && slices.Equal(a.Stack, b.Stack)
}

func isZero(s api.State) bool { return same(s, api.State{}) }

// needs is how many patterns an operation needs; false: there is no such operation.
func needs(do int) (int, bool) {
	switch do {
	case api.OpLoad, api.OpPattern, api.OpWay, api.OpFormat, api.OpClear, api.OpTrap:
		return 0, true
	case api.OpSqrt, api.OpCall, api.OpCopy, api.OpDrop:
		return 1, true
	case api.OpAdd, api.OpSub, api.OpMul, api.OpDiv, api.OpSwap:
		return 2, true
	case api.OpFused:
		return 3, true
	}
	return 0, false
}

// reckoned is what a call of another chapter makes of the uppermost patterns.
func reckoned(s api.State, o api.Op, p []string) (string, int, api.Errno) {
	switch o.Do {
	case api.OpLoad:
		return text.Parse(s.Format, o.Text, s.Way)
	case api.OpAdd:
		return arith.Add(s.Format, p[0], p[1], s.Way)
	case api.OpSub:
		return arith.Sub(s.Format, p[0], p[1], s.Way)
	case api.OpMul:
		return arith.Mul(s.Format, p[0], p[1], s.Way)
	case api.OpDiv:
		return arith.Div(s.Format, p[0], p[1], s.Way)
	case api.OpSqrt:
		return arith.Sqrt(s.Format, p[0], s.Way)
	case api.OpFused:
		return arith.Fused(s.Format, p[0], p[1], p[2], s.Way)
	}
	return elem.Call(o.Number, s.Format, p[0], s.Way, 600)
}

// plain is what an operation that tells no flags makes of a state; false: it is another one.
func plain(s api.State, o api.Op) (api.State, api.Errno, bool) {
	n := len(s.Stack)
	then := s
	then.Stack = slices.Clone(s.Stack)
	size, _ := codec.Size(s.Format)
	wrong := api.OK
	switch o.Do {
	case api.OpPattern:
		if len(o.Text) != size {
			wrong = api.ErrForm
		} else if n == 16 {
			wrong = api.ErrMany
		}
		then.Stack = append(then.Stack, o.Text)
	case api.OpCopy:
		if n == 16 {
			wrong = api.ErrMany
		}
		then.Stack = append(then.Stack, s.Stack[n-1])
	case api.OpSwap:
		then.Stack[n-1], then.Stack[n-2] = s.Stack[n-2], s.Stack[n-1]
	case api.OpDrop:
		then.Stack = then.Stack[:n-1]
	case api.OpWay:
		if then.Way = o.Number; o.Number < 1 || o.Number > 5 {
			wrong = api.ErrKind
		}
	case api.OpTrap:
		if then.Traps = o.Number; o.Number < 0 || o.Number > 31 {
			wrong = api.ErrRange
		}
	case api.OpClear:
		then.Flags = 0
	default:
		return api.State{}, api.OK, false
	}
	if wrong != api.OK {
		return s, wrong, true
	}
	return then, api.OK, true
}

// stepped is what L2 and L3 say of a state with which nothing is wrong.
func stepped(s api.State, o api.Op) (api.State, api.Errno) {
	few, known := needs(o.Do)
	n := len(s.Stack)
	switch {
	case !known:
		return s, api.ErrKind
	case n < few:
		return s, api.ErrNone
	}
	if then, e, ok := plain(s, o); ok {
		return then, e
	}
	then := s
	flags := 0
	if o.Do == api.OpFormat {
		if _, e := codec.Size(o.Number); e != api.OK {
			return s, api.ErrKind
		}
		then.Stack, then.Format = nil, o.Number
		for _, p := range s.Stack {
			q, more, _ := conv.Convert(s.Format, p, o.Number, s.Way)
			then.Stack = append(then.Stack, q)
			flags |= more
		}
	} else {
		p, more, e := reckoned(s, o, s.Stack[n-few:])
		switch {
		case e != api.OK:
			return s, e
		case n-few == 16:
			return s, api.ErrMany
		}
		then.Stack = append(slices.Clone(s.Stack[:n-few]), p)
		flags = more
	}
	if flags&s.Traps != 0 {
		then, then.Flags = s, s.Flags|flags
		return then, api.ErrState
	}
	then.Flags |= flags
	return then, api.OK
}
