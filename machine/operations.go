package machine

import (
	"slipstick/api"
	"slipstick/arith"
	"slipstick/codec"
	"slipstick/conv"
	"slipstick/elem"
	"slipstick/text"
)

// mostBits by which a function is reckoned.
const mostBits = 600

// bench is a copy of a state, on which an operation works, and the flags that were told.
type bench struct {
	api.State
	told int
}

// operation of a machine: how many patterns it needs, and what it does.
type operation struct {
	needs int
	do    func(b *bench, o api.Op) api.Errno
}

// operations by what an Op does.
func operations() map[int]operation {
	return map[int]operation{
		api.OpLoad: {0, func(b *bench, o api.Op) api.Errno { return b.push(text.Parse(b.Format, o.Text, b.Way)) }},
		api.OpPattern: {0, func(b *bench, o api.Op) api.Errno {
			if size, _ := codec.Size(b.Format); len(o.Text) != size {
				return api.ErrForm
			}
			return b.push(o.Text, 0, api.OK)
		}},
		api.OpAdd: {2, ofTwo(arith.Add)},
		api.OpSub: {2, ofTwo(arith.Sub)},
		api.OpMul: {2, ofTwo(arith.Mul)},
		api.OpDiv: {2, ofTwo(arith.Div)},
		api.OpSqrt: {1, func(b *bench, o api.Op) api.Errno {
			return b.replace(1, func(p []string) (string, int, api.Errno) { return arith.Sqrt(b.Format, p[0], b.Way) })
		}},
		api.OpFused: {3, func(b *bench, o api.Op) api.Errno {
			return b.replace(3, func(p []string) (string, int, api.Errno) { return arith.Fused(b.Format, p[0], p[1], p[2], b.Way) })
		}},
		api.OpCall: {1, func(b *bench, o api.Op) api.Errno {
			return b.replace(1, func(p []string) (string, int, api.Errno) { return elem.Call(o.Number, b.Format, p[0], b.Way, mostBits) })
		}},
		api.OpSwap: {2, func(b *bench, o api.Op) api.Errno {
			upper := b.upper(2)
			upper[0], upper[1] = upper[1], upper[0]
			return api.OK
		}},
		api.OpCopy:   {1, func(b *bench, o api.Op) api.Errno { return b.push(b.upper(1)[0], 0, api.OK) }},
		api.OpDrop:   {1, func(b *bench, o api.Op) api.Errno { b.drop(1); return api.OK }},
		api.OpWay:    {0, func(b *bench, o api.Op) api.Errno { return set(&b.Way, o.Number, wrongWay(o.Number), api.ErrKind) }},
		api.OpTrap:   {0, func(b *bench, o api.Op) api.Errno { return set(&b.Traps, o.Number, wrongFlags(o.Number), api.ErrRange) }},
		api.OpFormat: {0, func(b *bench, o api.Op) api.Errno { return b.convert(o.Number) }},
		api.OpClear:  {0, func(b *bench, o api.Op) api.Errno { return set(&b.Flags, 0, false, api.OK) }},
	}
}

// ofTwo is what a call of chapter 6 does with the uppermost two.
func ofTwo(call func(format int, a, b string, way int) (string, int, api.Errno)) func(b *bench, o api.Op) api.Errno {
	return func(b *bench, o api.Op) api.Errno {
		return b.replace(2, func(p []string) (string, int, api.Errno) { return call(b.Format, p[0], p[1], b.Way) })
	}
}

// set a field to a number, unless that is wrong.
func set(field *int, n int, wrong bool, e api.Errno) api.Errno {
	if wrong {
		return e
	}
	*field = n
	return api.OK
}

// upper n patterns, the lower ones first, in their place. There must be as many.
func (b *bench) upper(n int) []string { return b.Stack[len(b.Stack)-n:] }

// drop the upper n patterns.
func (b *bench) drop(n int) { b.Stack = b.Stack[:len(b.Stack)-n] }

// push a pattern that a call answered, with its flags.
func (b *bench) push(s string, flags int, e api.Errno) api.Errno {
	switch {
	case e != api.OK:
		return e
	case len(b.Stack) == api.MaxStack:
		return api.ErrMany
	}
	b.Stack = append(b.Stack, s)
	b.told |= flags
	return api.OK
}

// replace the upper n patterns by what call makes of them.
func (b *bench) replace(n int, call func(p []string) (string, int, api.Errno)) api.Errno {
	s, flags, e := call(b.upper(n))
	b.drop(n)
	return b.push(s, flags, e)
}

// convert all patterns to another format.
func (b *bench) convert(format int) api.Errno {
	if _, e := codec.Size(format); e != api.OK {
		return e
	}
	for i, s := range b.Stack {
		made, flags, e := conv.Convert(b.Format, s, format, b.Way)
		if e != api.OK {
			return e
		}
		b.Stack[i] = made
		b.told |= flags
	}
	b.Format = format
	return api.OK
}
