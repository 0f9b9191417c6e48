package machine

import (
	"math"
	"math/big"
	"slices"
	"testing"

	"slipstick/api"
	"slipstick/arith"
	"slipstick/ball"
	"slipstick/codec"
	"slipstick/conv"
	"slipstick/dyad"
	"slipstick/elem"
	"slipstick/grid"
	"slipstick/kernel"
	"slipstick/series"
	"slipstick/text"
)

// What the whole promises, row by row: the layers are asked by their calls alone, and held against the library's ratios.

const first, last = api.FormatSingle, api.FormatVaxG

func natOf(n *big.Int) api.Nat {
	var a api.Nat
	for n = new(big.Int).Abs(n); n.Sign() > 0; n.Rsh(n, 32) {
		a = append(a, uint32(new(big.Int).And(n, big.NewInt(math.MaxUint32)).Uint64()))
	}
	return a
}

func bigOf(a api.Nat) *big.Int {
	n := new(big.Int)
	for i := len(a) - 1; i >= 0; i-- {
		n.Or(n.Lsh(n, 32), big.NewInt(int64(a[i])))
	}
	return n
}

// ratOf a dyad.
func ratOf(x api.Dyad) *big.Rat {
	n := bigOf(x.Mantissa)
	if x.Neg {
		n.Neg(n)
	}
	power := new(big.Int).Lsh(big.NewInt(1), uint(max(x.Exp, -x.Exp)))
	if x.Exp < 0 {
		return new(big.Rat).SetFrac(n, power)
	}
	return new(big.Rat).SetInt(n.Mul(n, power))
}

func fine(t *testing.T, errors ...api.Errno) {
	t.Helper()
	for _, e := range errors {
		if e != api.OK {
			t.Fatalf("error %d", e)
		}
	}
}

// dyad of some bits, near to 1.
func (d *draw) dyad() api.Dyad {
	n := big.NewInt(int64(d.below(1 << 30)))
	return api.Dyad{Neg: d.below(2) == 0, Mantissa: natOf(n), Exp: d.below(12) - 36}
}

// ball with two dyads in it.
func (d *draw) ball(t *testing.T) (a api.Ball, x, y api.Dyad) {
	t.Helper()
	x, y = d.dyad(), d.dyad()
	a, e := ball.Join(api.Ball{Low: x, High: x}, api.Ball{Low: y, High: y}, 64)
	fine(t, e)
	return a, x, y
}

func TestWholeOfBalls(t *testing.T) {
	d := draw(1)
	within := func(what string, got api.Ball, e api.Errno, want *big.Rat) {
		t.Helper()
		fine(t, e)
		if ratOf(got.Low).Cmp(want) > 0 || ratOf(got.High).Cmp(want) < 0 {
			t.Fatalf("%s: %v has not %v", what, got, want)
		}
	}
	for range 2000 {
		a, x, _ := d.ball(t)
		b, y, _ := d.ball(t)
		bits := 1 + d.below(70)
		sum, e := ball.Add(a, b, bits)
		within("sum", sum, e, new(big.Rat).Add(ratOf(x), ratOf(y)))
		less, e := ball.Sub(a, b, bits)
		within("difference", less, e, new(big.Rat).Sub(ratOf(x), ratOf(y)))
		product, e := ball.Mul(a, b, bits)
		within("product", product, e, new(big.Rat).Mul(ratOf(x), ratOf(y)))
		if over, e := ball.Div(a, b, bits); e != api.ErrNone {
			within("quotient", over, e, new(big.Rat).Quo(ratOf(x), ratOf(y)))
		}
		x.Neg = false
		square, e := dyad.Mul(x, x)
		fine(t, e)
		root, e := ball.Sqrt(api.Ball{Low: square, High: square}, bits)
		within("root", root, e, ratOf(x))
	}
}

// ratio of any size.
func (d *draw) ratio(g api.Grid) api.Ratio {
	num, den := big.NewInt(int64(1+d.below(1<<31-1))), big.NewInt(int64(1+d.below(1<<d.below(31))))
	num.Mul(num, big.NewInt(int64(1+d.below(1<<31-1)))).Mul(num, big.NewInt(int64(1+d.below(1<<31-1))))
	width := map[int]int{2: 1, 16: 4}[g.Radix]
	exp := width*g.Least + d.below(width*(g.Greatest-g.Least))
	if d.below(2) == 0 {
		exp = d.below(200) - 150
	}
	return api.Ratio{Neg: d.below(2) == 0, Num: natOf(num), Den: natOf(den), Exp: exp}
}

func ratOfRatio(q api.Ratio) *big.Rat {
	x := ratOf(api.Dyad{Neg: q.Neg, Mantissa: q.Num, Exp: q.Exp})
	return x.Quo(x, new(big.Rat).SetInt(bigOf(q.Den)))
}

func gridOf(t *testing.T, format int) api.Grid {
	t.Helper()
	g, e := codec.Grid(format)
	fine(t, e)
	return g
}

// What is rounded down and what is rounded up have nothing of the grid between them but what was rounded.
func TestWholeOfRounding(t *testing.T) {
	for format := first; format <= last; format++ {
		g := gridOf(t, format)
		d := draw(10 + format)
		for range 150 {
			q := d.ratio(g)
			down, e1 := grid.Round(q, g, api.RoundDown)
			up, e2 := grid.Round(q, g, api.RoundUp)
			fine(t, e1, e2)
			low, e1 := grid.Number(down, g)
			high, e2 := grid.Number(up, g)
			fine(t, e1, e2)
			x := ratOfRatio(q)
			if ratOf(low).Cmp(x) > 0 || ratOf(high).Cmp(x) < 0 || down.Exact != (ratOf(low).Cmp(ratOf(high)) == 0) {
				t.Fatalf("%v of %d: from %v to %v", q, format, low, high)
			}
			if held, _ := grid.Holds(low, g); !held || down.Over || up.Over || down.Exact {
				continue
			}
			next, e := grid.Step(low, g, true)
			if held, _ := grid.Holds(high, g); held && (e != api.OK || ratOf(next).Cmp(ratOf(high)) != 0) {
				t.Fatalf("%v of %d: from %v to %v, and the next one is %v", q, format, low, high, next)
			}
		}
	}
}

// What is encoded is decoded as it was.
func TestWholeOfPatterns(t *testing.T) {
	for format := first; format <= last; format++ {
		d := draw(20 + format)
		for range 2000 {
			v, e := codec.Decode(format, d.pattern(sizeOf(t, format)))
			fine(t, e)
			s, e := codec.Encode(format, v)
			if e == api.ErrState && gridOf(t, format).Radix == 16 {
				continue // a number that the grid has not
			}
			fine(t, e)
			if w, e := codec.Decode(format, s); e != api.OK || w.Class != v.Class || w.Neg != v.Neg || w.Power != v.Power || !slices.Equal(w.Digits, v.Digits) {
				t.Fatalf("%v of %d is %x, and that is %v", v, format, s, w)
			}
		}
	}
}

// numberOf a pattern; false: it is none, nor 0.
func numberOf(t *testing.T, format int, s string) (api.Dyad, bool) {
	t.Helper()
	v, e := codec.Decode(format, s)
	fine(t, e)
	x, e := grid.Number(api.Place{Neg: v.Neg, Digits: v.Digits, Power: v.Power}, gridOf(t, format))
	fine(t, e)
	return x, v.Class == api.ClassNumber || v.Class == api.ClassZero
}

// numbers of a format, near to 1, so that what comes of them mostly is a number, too.
func (d *draw) numbers(t *testing.T, format, count int) []string {
	t.Helper()
	var list []string
	for range count {
		q := api.Ratio{Neg: d.below(3) == 0, Num: natOf(big.NewInt(int64(1 + d.below(1<<31-1)))), Den: natOf(big.NewInt(int64(1 + d.below(1<<20)))), Exp: d.below(20) - 20}
		s, _, e := arith.Fit(format, q, api.RoundEven)
		fine(t, e)
		list = append(list, s)
	}
	return list
}

// between asks that a number is between what was rounded down and what was rounded up, that these are in the grid and next
// to one another, and that each way makes one of both. cmp is where the number lies to what it is handed: -1, 0 or 1.
func between(t *testing.T, what string, format int, call func(way int) (string, int, api.Errno), cmp func(x api.Dyad) int) {
	t.Helper()
	low, _, e1 := call(api.RoundDown)
	high, flags, e2 := call(api.RoundUp)
	fine(t, e1, e2)
	x, ok1 := numberOf(t, format, low)
	y, ok2 := numberOf(t, format, high)
	held, _ := grid.Holds(x, gridOf(t, format))
	if !held || !ok1 || !ok2 || cmp(x) < 0 || cmp(y) > 0 {
		t.Fatalf("%s of format %d: from %x to %x", what, format, low, high)
	}
	if next, e := codec.Next(format, low, true); low != high && (e != api.OK || next != high) || (low == high) != (flags == 0) {
		t.Fatalf("%s of format %d: from %x to %x, flags %d", what, format, low, high, flags)
	}
	for _, way := range []int{api.RoundEven, api.RoundAway, api.RoundZero} {
		s, _, e := call(way)
		want := nearest(x, y, way, cmp)
		if v, _ := numberOf(t, format, s); e != api.OK || s != low && s != high || want != nil && ratOf(v).Cmp(want) != 0 {
			t.Fatalf("%s of format %d by %d: %x", what, format, way, s)
		}
	}
}

// nearest of two neighbours to a number between them, or the one nearer to 0; nil: it is just in the middle.
func nearest(x, y api.Dyad, way int, cmp func(x api.Dyad) int) *big.Rat {
	low, high := ratOf(x), ratOf(y)
	sum, _ := dyad.Add(x, y)
	half, _ := dyad.Scale(sum, -1)
	side := cmp(half)
	if way == api.RoundZero {
		side = -ratOf(half).Sign()
	}
	switch side {
	case -1:
		return low
	case 1:
		return high
	}
	return nil
}

// Each sum, product, quotient and root is rounded rightly, and what comes is in the grid.
func TestWholeOfArithmetic(t *testing.T) {
	for format := first; format <= last; format++ {
		d := draw(30 + format)
		list := d.numbers(t, format, 120)
		for i, a := range list[1:] {
			b := list[i]
			u, _ := numberOf(t, format, a)
			v, _ := numberOf(t, format, b)
			x, y := ratOf(u), ratOf(v)
			is := func(z *big.Rat) func(api.Dyad) int { return func(w api.Dyad) int { return z.Cmp(ratOf(w)) } }
			between(t, "sum", format, func(way int) (string, int, api.Errno) { return arith.Add(format, a, b, way) }, is(new(big.Rat).Add(x, y)))
			between(t, "difference", format, func(way int) (string, int, api.Errno) { return arith.Sub(format, a, b, way) }, is(new(big.Rat).Sub(x, y)))
			between(t, "product", format, func(way int) (string, int, api.Errno) { return arith.Mul(format, a, b, way) }, is(new(big.Rat).Mul(x, y)))
			between(t, "quotient", format, func(way int) (string, int, api.Errno) { return arith.Div(format, a, b, way) }, is(new(big.Rat).Quo(x, y)))
			fused := new(big.Rat).Mul(x, y)
			between(t, "fused", format, func(way int) (string, int, api.Errno) { return arith.Fused(format, a, b, a, way) }, is(fused.Add(fused, x)))
			if x.Sign() > 0 {
				between(t, "root", format, func(way int) (string, int, api.Errno) { return arith.Sqrt(format, a, way) }, func(w api.Dyad) int {
					return x.Cmp(new(big.Rat).Mul(ratOf(w), ratOf(w)))
				})
			}
		}
	}
}

func point(x api.Dyad) api.Ball { return api.Ball{Low: x, High: x} }

// order of two balls: -1 or 1, if all of one are less, or more, than all of the other one; else 0.
func order(a, b api.Ball) int {
	switch {
	case ratOf(a.High).Cmp(ratOf(b.Low)) < 0:
		return -1
	case ratOf(a.Low).Cmp(ratOf(b.High)) > 0:
		return 1
	}
	return 0
}

// lies tells where a function of x lies to a number, by what the kernel says of it.
func lies(t *testing.T, kind int, x api.Dyad) func(y api.Dyad) int {
	t.Helper()
	const bits = 300
	one := api.Dyad{Mantissa: api.Nat{1}}
	ln2, e := series.Ln2(bits)
	fine(t, e)
	direct := func(call func(api.Dyad, int) (api.Ball, api.Errno), x api.Dyad) func(api.Dyad) int {
		a, e := call(x, bits)
		fine(t, e)
		return func(y api.Dyad) int { return order(a, point(y)) }
	}
	more, e := dyad.Add(x, one)
	fine(t, e)
	switch kind {
	case api.KindExp:
		return direct(kernel.Exp, x)
	case api.KindLog:
		return direct(kernel.Log, x)
	case api.KindSin:
		return direct(kernel.Sin, x)
	case api.KindCos:
		return direct(kernel.Cos, x)
	case api.KindArctan:
		return direct(kernel.Arctan, x)
	case api.KindLog1p:
		return direct(kernel.Log, more)
	case api.KindExpm1:
		of := direct(kernel.Exp, x)
		return func(y api.Dyad) int {
			above, e := dyad.Add(y, one)
			fine(t, e)
			return of(above)
		}
	case api.KindLog2:
		of, e := kernel.Log(x, bits)
		fine(t, e)
		return func(y api.Dyad) int {
			scaled, e := ball.Mul(ln2, point(y), bits)
			fine(t, e)
			return order(of, scaled)
		}
	}
	// 2 to the power of x lies to y as x times ln 2 to the logarithm of y.
	scaled, e := ball.Mul(ln2, point(x), bits)
	fine(t, e)
	return func(y api.Dyad) int {
		of, e := kernel.Log(y, bits)
		fine(t, e)
		return order(scaled, of)
	}
}

// Each function is rounded rightly, and what comes is in the grid.
func TestWholeOfFunctions(t *testing.T) {
	for format := first; format <= last; format++ {
		d := draw(40 + format)
		for i, s := range d.numbers(t, format, 60) {
			x, _ := numberOf(t, format, s)
			kind := 1 + i%9
			small := x.Neg && ratOf(x).Cmp(big.NewRat(-1, 1)) <= 0
			if (kind == api.KindLog || kind == api.KindLog2) && x.Neg || kind == api.KindLog1p && small || ratOf(x).Cmp(big.NewRat(80, 1)) > 0 || ratOf(x).Cmp(big.NewRat(-80, 1)) < 0 {
				continue
			}
			between(t, "function", format, func(way int) (string, int, api.Errno) { return elem.Call(kind, format, s, way, 600) }, lies(t, kind, x))
		}
	}
}

// Where one grid has all of another one, to convert and back is to do nothing.
func TestWholeOfConversions(t *testing.T) {
	pairs := 0
	for from := first; from <= last; from++ {
		for to := first; to <= last; to++ {
			all, e := conv.Exact(from, to)
			fine(t, e)
			if !all {
				continue
			}
			pairs++
			d := draw(50 + 10*from + to)
			for range 300 {
				s := d.pattern(sizeOf(t, from))
				v, e := codec.Decode(from, s)
				fine(t, e)
				made, e := codec.Encode(from, v)
				if v.Class != api.ClassNumber || e != api.OK {
					continue
				}
				there, flags, e1 := conv.Convert(from, s, to, 1+d.below(5))
				back, others, e2 := conv.Convert(to, there, from, 1+d.below(5))
				fine(t, e1, e2)
				if back != made || flags != 0 || others != 0 {
					t.Fatalf("%x of %d is %x of %d, and back %x: flags %d and %d", s, from, there, to, back, flags, others)
				}
			}
		}
	}
	if pairs <= 8 {
		t.Errorf("only %d formats have all of one", pairs)
	}
}

// What is printed shortest is parsed as it was, and, through another format that has all of it, too.
func TestWholeOfTexts(t *testing.T) {
	for from := first; from <= last; from++ {
		d := draw(60 + from)
		for i := range 80 {
			s := d.pattern(sizeOf(t, from))
			if i%2 == 0 || from == api.FormatExtended && i%8 > 0 {
				s = d.numbers(t, from, 1)[0]
			}
			v, e := codec.Decode(from, s)
			fine(t, e)
			made, e := codec.Encode(from, v)
			if v.Class != api.ClassNumber || e != api.OK {
				continue
			}
			shown, e := text.Shortest(from, s)
			fine(t, e)
			if back, _, e := text.Parse(from, shown, api.RoundEven); back != made || e != api.OK {
				t.Fatalf("%x of %d is %s, and that is %x", s, from, shown, back)
			}
			for to := first; to <= last; to++ {
				if all, _ := conv.Exact(from, to); !all {
					continue
				}
				there, _, e1 := conv.Convert(from, s, to, api.RoundEven)
				shown, e2 := text.Shortest(to, there)
				parsed, _, e3 := text.Parse(to, shown, api.RoundEven)
				back, _, e4 := conv.Convert(to, parsed, from, api.RoundEven)
				fine(t, e1, e2, e3, e4)
				if back != made {
					t.Fatalf("%x of %d, through %s of %d, is %x", s, from, shown, to, back)
				}
			}
		}
	}
}

// Sine and cosine make 1 by their squares; e to the power of a sum is the product; Log undoes Exp.
func TestWholeOfTheKernel(t *testing.T) {
	const bits = 200
	d := draw(70)
	narrow := func(a api.Ball) bool {
		width := new(big.Rat).Sub(ratOf(a.High), ratOf(a.Low))
		return width.Cmp(new(big.Rat).SetFrac64(1, 1<<62)) < 0
	}
	for range 200 {
		x, y := d.dyad(), d.dyad()
		sin, e1 := kernel.Sin(x, bits)
		cos, e2 := kernel.Cos(x, bits)
		fine(t, e1, e2)
		first, e1 := ball.Mul(sin, sin, 2*bits)
		second, e2 := ball.Mul(cos, cos, 2*bits)
		squares, e3 := ball.Add(first, second, 2*bits)
		fine(t, e1, e2, e3)
		if order(squares, point(api.Dyad{Mantissa: api.Nat{1}})) != 0 || !narrow(squares) {
			t.Fatalf("%v: the squares make %v", x, squares)
		}
		sum, e := dyad.Add(x, y)
		fine(t, e)
		a, e1 := kernel.Exp(x, bits)
		b, e2 := kernel.Exp(y, bits)
		c, e3 := kernel.Exp(sum, bits)
		fine(t, e1, e2, e3)
		if product, e := ball.Mul(a, b, 2*bits); e != api.OK || order(product, c) != 0 || !narrow(product) || !narrow(c) {
			t.Fatalf("%v and %v: %v and %v", x, y, product, c)
		}
		low, e1 := kernel.Log(a.Low, bits)
		high, e2 := kernel.Log(a.High, bits)
		fine(t, e1, e2)
		if undone := (api.Ball{Low: low.Low, High: high.High}); order(undone, point(x)) != 0 || !narrow(undone) {
			t.Fatalf("%v: Log of Exp is %v", x, undone)
		}
	}
}

// A machine does what the calls do: a long list, by hand and by Run.
func TestWholeOfTheMachine(t *testing.T) {
	for format := first; format <= last; format++ {
		for way := api.RoundEven; way <= api.RoundDown; way++ {
			x, f1, e1 := text.Parse(format, "0.7", way)
			y, f2, e2 := text.Parse(format, "3", way)
			fine(t, e1, e2)
			sum, f3, e1 := arith.Add(format, x, y, way)
			less, f4, e2 := arith.Sub(format, sum, y, way)
			product, f5, e3 := arith.Mul(format, less, y, way)
			over, f6, e4 := arith.Div(format, product, x, way)
			fine(t, e1, e2, e3, e4)
			root, f7, e1 := arith.Sqrt(format, over, way)
			log, f8, e2 := elem.Call(api.KindLog, format, root, way, 600)
			fused, f9, e3 := arith.Fused(format, log, y, x, way)
			fine(t, e1, e2, e3)
			to := 1 + (format+way)%8
			moved, f10, e1 := conv.Convert(format, fused, to, way)
			shown, e2 := text.Print(to, moved, 17)
			fine(t, e1, e2)
			s, n, e := Run(api.State{Format: format, Way: way}, []api.Op{load("0.7"), pattern(y), op(api.OpAdd), pattern(y), op(api.OpSub), pattern(y), op(api.OpMul), load("0.7"), op(api.OpDiv),
				op(api.OpSqrt), numbered(api.OpCall, api.KindLog), load("3"), load("0.7"), op(api.OpFused), numbered(api.OpFormat, to)})
			flags := f1 | f2 | f3 | f4 | f5 | f6 | f7 | f8 | f9 | f10
			if want := (api.State{Format: to, Way: way, Flags: flags, Stack: []string{moved}}); !same(s, want) || n != 15 || e != api.OK {
				t.Fatalf("format %d, way %d: %x %d, error %d, and must be %x", format, way, s, n, e, want)
			}
			if list, e := Show(s, 17); !slices.Equal(list, []string{shown}) || e != api.OK {
				t.Fatalf("format %d, way %d: %q, error %d", format, way, list, e)
			}
		}
	}
}
