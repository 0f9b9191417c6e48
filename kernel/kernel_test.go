package kernel

import (
	"math"
	"math/big"
	"slices"
	"testing"

	"slipstick/api"
	"slipstick/ball"
	"slipstick/dyad"
)

// draw: numbers for long tests; the same each time.
type draw uint64

func (d *draw) below(n int) int {
	*d = *d*6364136223846793005 + 1442695040888963407
	return int(uint64(*d) >> 33 % uint64(n))
}

// mantissa of so many bits.
func (d *draw) mantissa(bits int) *big.Int {
	n := big.NewInt(1)
	for n.BitLen() < bits {
		n.Lsh(n, 1).Add(n, big.NewInt(int64(d.below(2))))
	}
	return n
}

// small is n times 2 to the power of exp.
func small(n, exp int) api.Dyad { return dyadOf(big.NewInt(int64(n)), exp) }

// dyadOf is a whole number times 2 to the power of exp.
func dyadOf(n *big.Int, exp int) api.Dyad {
	x := api.Dyad{Neg: n.Sign() < 0, Exp: exp}
	rest, digit := new(big.Int).Abs(n), big.NewInt(math.MaxUint32)
	for ; rest.Sign() > 0; rest.Rsh(rest, 32) {
		x.Mantissa = append(x.Mantissa, uint32(new(big.Int).And(rest, digit).Uint64()))
	}
	return x
}

func power(n int) *big.Int { return new(big.Int).Lsh(big.NewInt(1), uint(n)) }

// less is 2 to the power of n, less 1.
func less(n int) *big.Int { return new(big.Int).Sub(power(n), big.NewInt(1)) }

// more is 2 to the power of n, and 1.
func more(n int) *big.Int { return new(big.Int).Add(power(n), big.NewInt(1)) }

func opposite(x api.Dyad) api.Dyad {
	x.Neg = !x.Neg
	return x
}

func toBig(a api.Nat) *big.Int {
	b := make([]byte, 0, 4*len(a))
	for i := len(a) - 1; i >= 0; i-- {
		b = append(b, byte(a[i]>>24), byte(a[i]>>16), byte(a[i]>>8), byte(a[i]))
	}
	return new(big.Int).SetBytes(b)
}

// value of a dyad, with all of its bits.
func value(a api.Dyad) *big.Float {
	n := toBig(a.Mantissa)
	if a.Neg {
		n.Neg(n)
	}
	x := fresh().SetInt(n)
	return x.SetMantExp(x, a.Exp)
}

// floated is the dyad that a number is, cut to so many bits.
func floated(x *big.Float, bits uint) api.Dyad {
	y := new(big.Float).SetPrec(bits).SetMode(big.ToZero).Set(x)
	exp := y.MantExp(nil) - int(bits)
	n, _ := y.SetMantExp(y, -exp).Int(nil)
	return dyadOf(n, exp)
}

func bare(a api.Dyad) bool {
	if len(a.Mantissa) == 0 {
		return !a.Neg && a.Exp == 0
	}
	return dyad.Check(a) == api.OK && a.Mantissa[0]%2 == 1
}

func zero(a api.Dyad) bool { return !a.Neg && len(a.Mantissa) == 0 && a.Exp == 0 }

func refused(t *testing.T, what string, got api.Ball, e, want api.Errno) {
	t.Helper()
	if e != want || !zero(got.Low) || !zero(got.High) {
		t.Errorf("%s: %v, error %d, and must be error %d alone", what, got, e, want)
	}
}

// function of this chapter, and what it is held against.
type function struct {
	name string
	call func(x api.Dyad, bits int) (api.Ball, api.Errno)
	true func(x *big.Float) *big.Float
}

func functions() map[string]function {
	pi := truePi()
	return map[string]function{
		"Exp":    {"Exp", Exp, trueExp},
		"Log":    {"Log", Log, trueLog},
		"Sin":    {"Sin", Sin, func(x *big.Float) *big.Float { return trueSin(x, pi, 0) }},
		"Cos":    {"Cos", Cos, func(x *big.Float) *big.Float { return trueSin(x, pi, 1) }},
		"Arctan": {"Arctan", Arctan, func(x *big.Float) *big.Float { return trueArctan(x, pi) }},
	}
}

// narrow asks what J2 asks: that the ends are no farther apart than v over 2 to the power of bits - 6.
func narrow(a api.Ball, bits int) bool {
	low, high := value(a.Low), value(a.High)
	v := fresh().Set(low)
	if high.Sign() < 0 {
		v.Set(high)
	}
	if low.Sign()*high.Sign() <= 0 {
		return false
	}
	v.Abs(v)
	return fresh().Sub(high, low).Cmp(v.SetMantExp(v, 6-bits)) <= 0
}

// held asks J1 and J2 of a function at x, which is none of those with a value of bits.
func (f function) held(t *testing.T, x api.Dyad, some ...int) {
	t.Helper()
	want := f.true(value(x))
	little := fresh().Abs(want)
	little.SetMantExp(little, -sure)
	least, most := fresh().Sub(want, little), fresh().Add(want, little)
	for _, bits := range some {
		got, e := f.call(x, bits)
		if e != api.OK || !bare(got.Low) || !bare(got.High) {
			t.Fatalf("%s of %v by %d bits: %v, error %d", f.name, x, bits, got, e)
		}
		if value(got.Low).Cmp(most) > 0 || value(got.High).Cmp(least) < 0 || value(got.Low).Cmp(value(got.High)) >= 0 {
			t.Fatalf("%s of %v by %d bits: %v has not %v", f.name, x, bits, got, want.Text('g', 40))
		}
		if !narrow(got, bits) {
			t.Fatalf("%s of %v by %d bits: %v is too wide", f.name, x, bits, got)
		}
	}
}

// widths: both bounds and some between them.
var widths = []int{20, 21, 53, 64, 113, 300, 599, 600}

// ordinary numbers, all above 0, of few bits and of many, and none of them 1.
func ordinary() []api.Dyad {
	list := []api.Dyad{small(2, 0), small(1, -1), small(3, -2), small(3, -1), small(3, 0), small(10, 0), small(355, 0),
		small(1000001, -20), small(1, -9), small(1, -40), small(1, -200), small(700, 0), small(12<<10, -10)}
	d := draw(7)
	for _, bits := range []int{2, 24, 53, 64, 65, 600, 1199, 1200} {
		for _, exp := range []int{-1300, -60, -8, -1, 0, 1, 2, 5, 10, 13} {
			list = append(list, dyadOf(d.mantissa(bits), exp-bits))
		}
	}
	return list
}

func TestJ1Ordinary(t *testing.T) {
	all := functions()
	for i, x := range ordinary() {
		some := []int{widths[i%len(widths)], widths[(i+5)%len(widths)]}
		for _, f := range all {
			f.held(t, x, some...)
			if f.name != "Log" {
				f.held(t, opposite(x), some...)
			}
		}
	}
}

// Digits that anyone may look up.
func TestJ1KnownDigits(t *testing.T) {
	for text, f := range map[string]func(api.Dyad, int) (api.Ball, api.Errno){
		"2.7182818284590452353602874713526":  Exp,
		"0.84147098480789650665250232163029": Sin,
		"0.54030230586813971740093660744297": Cos,
		"0.78539816339744830961566084581987": Arctan,
		"2.3025850929940456840179914546843":  func(_ api.Dyad, bits int) (api.Ball, api.Errno) { return Log(small(10, 0), bits) },
	} {
		want, _ := fresh().SetString(text)
		got, e := f(small(1, 0), 100)
		low, high := fresh().Sub(value(got.Low), want), fresh().Sub(value(got.High), want)
		if e != api.OK || low.Abs(low).Cmp(float(1e-29)) > 0 || high.Abs(high).Cmp(float(1e-29)) > 0 {
			t.Errorf("%s: %v, error %d", text, got, e)
		}
	}
}

func TestJ1ExpNearItsBounds(t *testing.T) {
	f := functions()["Exp"]
	most := dyadOf(new(big.Int).Sub(new(big.Int).Lsh(big.NewInt(12000), 1186), big.NewInt(1)), -1186)
	for _, x := range []api.Dyad{small(12000, 0), small(375, 5), most, small(11999, 0), small(23999, -1)} {
		f.held(t, x, 20, 600)
		f.held(t, opposite(x), 20, 600)
	}
	// Near to multiples of ln 2 little is left to reckon with, and near to halves of them either one may be nearest.
	two := trueLog(float(2))
	for _, halves := range []int64{1, 2, 3, 4, 17, 20000, 34624} {
		x := fresh().Mul(two, whole(halves))
		for _, bits := range []uint{20, 53, 600, 1200} {
			near := floated(x.SetMantExp(x, -1), bits)
			x.SetMantExp(x, 1)
			f.held(t, near, 20, 64, 600)
			f.held(t, opposite(near), 20, 64, 600)
		}
	}
}

func TestJ1LogBesideOneAndFar(t *testing.T) {
	f := functions()["Log"]
	for _, n := range []int{1, 2, 3, 10, 53, 100, 599, 600, 601, 1199} {
		f.held(t, dyadOf(more(n), -n), 20, 300, 600)
		f.held(t, dyadOf(less(n), -n), 20, 300, 600)
	}
	f.held(t, dyadOf(less(1200), -1200), 20, 600)
	// Beside 3/4 and 3/2 another power of 2 is taken.
	for _, n := range []int{4, 30, 1190} {
		for exp := -2; exp <= 1; exp++ {
			three := new(big.Int).Lsh(big.NewInt(3), uint(n))
			f.held(t, dyadOf(new(big.Int).Add(three, big.NewInt(1)), exp-n), 20, 600)
			f.held(t, dyadOf(new(big.Int).Sub(three, big.NewInt(1)), exp-n), 20, 600)
		}
	}
	for _, x := range []api.Dyad{small(1, -1), small(1, 1), small(1, 20000), small(1, -18000), dyadOf(less(1200), 20000),
		dyadOf(less(1200), -18000), dyadOf(power(38399), 20000), small(6, 20000)} {
		f.held(t, x, 20, 64, 600)
	}
}

// nearCircles are numbers of many bits that lie near to so many quarters of a circle.
func nearCircles() []api.Dyad {
	pi := truePi()
	quarter := fresh().Quo(pi, float(2))
	var list []api.Dyad
	for _, n := range []int64{1, 2, 3, 4, 5, 6, 7, 8, 1001, 1 << 40, 1<<62 + 3} {
		x := fresh().Mul(quarter, whole(n))
		for _, bits := range []uint{24, 53, 100, 600, 1200} {
			list = append(list, floated(x, bits))
		}
	}
	return append(list, nearestWholes(quarter)...)
}

// nearestWholes are whole numbers that lie nearer to multiples of x than any that are less do, up to the bound of angles.
func nearestWholes(x *big.Float) []api.Dyad {
	var list []api.Dyad
	rest := fresh().Set(x)
	last, now := big.NewInt(1), new(big.Int)
	for i := 0; ; i++ {
		part, _ := rest.Int(nil)
		if i == 0 {
			now.Set(part)
		} else {
			last, now = now, new(big.Int).Add(last, new(big.Int).Mul(now, part))
		}
		if now.BitLen() > 1200 {
			return append(list, dyadOf(last, 0))
		}
		if i%100 < 3 && i > 0 {
			list = append(list, dyadOf(now, 0))
		}
		rest.Sub(rest, fresh().SetInt(part)).Quo(float(1), rest)
	}
}

func TestJ1AnglesNearQuarters(t *testing.T) {
	all := functions()
	near := 0
	for _, x := range nearCircles() {
		for _, name := range []string{"Sin", "Cos"} {
			all[name].held(t, x, 20, 64, 600)
			all[name].held(t, opposite(x), 20)
			if got, _ := all[name].call(x, 20); value(got.High).MantExp(nil) < -1100 {
				near++
			}
		}
	}
	if near < 8 {
		t.Errorf("only %d of these angles are very near", near)
	}
}

func TestJ1GreatAngles(t *testing.T) {
	all := functions()
	d := draw(9)
	list := []api.Dyad{small(1, 100), small(1, 1199), dyadOf(less(1200), 0), small(3, 1198), dyadOf(d.mantissa(1200), 0), small(5, 600)}
	for _, bits := range []int{53, 700, 1200} {
		for _, exp := range []int{64, 500, 1100, 1200} {
			list = append(list, dyadOf(d.mantissa(bits), exp-bits))
		}
	}
	for _, x := range list {
		for _, name := range []string{"Sin", "Cos"} {
			all[name].held(t, x, 20, 200, 600)
			all[name].held(t, opposite(x), 64)
		}
	}
}

// An eighth of a circle is where the nearest number of quarters changes.
func TestJ1AnglesNearEighths(t *testing.T) {
	all := functions()
	for n := int64(1); n <= 15; n += 2 {
		x := fresh().Mul(truePi(), whole(n))
		x.SetMantExp(x, -2)
		for _, bits := range []uint{4, 53, 1200} {
			for _, name := range []string{"Sin", "Cos"} {
				all[name].held(t, floated(x, bits), 20, 600)
			}
		}
	}
}

func TestJ1ArctanOfGreatAndNearOne(t *testing.T) {
	f := functions()["Arctan"]
	for _, x := range []api.Dyad{small(1, 0), dyadOf(more(1199), -1199), dyadOf(less(1200), -1200), small(1, 20000), dyadOf(less(1200), 20000),
		dyadOf(power(38399), 20000), small(6, 20000), small(1, 5), small(1, -3), dyadOf(less(60), -63), dyadOf(more(60), -63)} {
		f.held(t, x, 20, 64, 600)
		f.held(t, opposite(x), 20, 600)
	}
}

// Of numbers very near to 0 what comes is not x itself, or 1: the ball must have something beside these.
func TestJ1NumbersNearZero(t *testing.T) {
	all := functions()
	one := float(1)
	for _, x := range []api.Dyad{small(1, -18000), dyadOf(less(1200), -18000), small(3, -17000), small(1, -1000), small(1, -700)} {
		for _, name := range []string{"Exp", "Sin", "Cos", "Arctan"} {
			all[name].held(t, x, widths...)
			all[name].held(t, opposite(x), widths...)
		}
		for _, bits := range widths {
			up, _ := Exp(x, bits)
			down, _ := Exp(opposite(x), bits)
			sin, _ := Sin(x, bits)
			cos, _ := Cos(x, bits)
			arc, _ := Arctan(opposite(x), bits)
			if value(up.High).Cmp(one) <= 0 || value(down.Low).Cmp(one) >= 0 || value(cos.Low).Cmp(one) >= 0 {
				t.Errorf("%v by %d bits: 1 alone", x, bits)
			}
			if value(sin.Low).Cmp(value(x)) >= 0 || value(arc.High).Cmp(value(opposite(x))) <= 0 {
				t.Errorf("%v by %d bits: x alone", x, bits)
			}
		}
	}
}

func TestJ2TheValueAlone(t *testing.T) {
	alone := func(name string, got api.Ball, e api.Errno, want api.Dyad) {
		t.Helper()
		if e != api.OK || !same(got, api.Ball{Low: want, High: want}) {
			t.Errorf("%s: %v, error %d, and must be %v alone", name, got, e, want)
		}
	}
	for _, bits := range []int{20, 333, 600} {
		for _, x := range []api.Dyad{{}, {Neg: true}, {Exp: 20000}, {Neg: true, Mantissa: api.Nat{}, Exp: -20000}} {
			for name, f := range map[string]func(api.Dyad, int) (api.Ball, api.Errno){"Exp": Exp, "Cos": Cos} {
				got, e := f(x, bits)
				alone(name, got, e, small(1, 0))
			}
			for name, f := range map[string]func(api.Dyad, int) (api.Ball, api.Errno){"Sin": Sin, "Arctan": Arctan} {
				got, e := f(x, bits)
				alone(name, got, e, api.Dyad{})
			}
		}
		for _, x := range []api.Dyad{small(1, 0), small(8, -3), dyadOf(power(20000), -20000)} {
			got, e := Log(x, bits)
			alone("Log", got, e, api.Dyad{})
		}
	}
}

func same(a, b api.Ball) bool {
	equal := func(x, y api.Dyad) bool {
		return x.Neg == y.Neg && x.Exp == y.Exp && slices.Equal(x.Mantissa, y.Mantissa)
	}
	return equal(a.Low, b.Low) && equal(a.High, b.High)
}

func has(a api.Ball, x api.Dyad) bool {
	ok, e := ball.Has(a, x)
	return ok && e == api.OK
}

func meet(a, b api.Ball) bool {
	return value(a.Low).Cmp(value(b.High)) <= 0 && value(b.Low).Cmp(value(a.High)) <= 0
}

func TestJ3SquaresMakeOne(t *testing.T) {
	for i, x := range append(ordinary(), nearCircles()...) {
		bits := widths[i%len(widths)]
		sin, _ := Sin(x, bits)
		cos, _ := Cos(x, bits)
		first, e1 := ball.Mul(sin, sin, api.MaxBits)
		second, e2 := ball.Mul(cos, cos, api.MaxBits)
		sum, e := ball.Add(first, second, api.MaxBits)
		if e1 != api.OK || e2 != api.OK || e != api.OK || !has(sum, small(1, 0)) || !narrow(sum, bits-3) {
			t.Errorf("%v by %d bits: %v", x, bits, sum)
		}
	}
}

func TestJ3PowerOfASumIsTheProduct(t *testing.T) {
	d := draw(11)
	for i := range 60 {
		a, b := dyadOf(d.mantissa(40), d.below(42)-70), dyadOf(d.mantissa(30), d.below(42)-60)
		a.Neg = i%2 == 1
		b.Neg = i%3 == 1
		bits := widths[i%len(widths)]
		sum, _ := dyad.Add(a, b)
		first, e1 := Exp(a, bits)
		second, e2 := Exp(b, bits)
		got, e3 := Exp(sum, bits)
		product, e := ball.Mul(first, second, api.MaxBits)
		if e1 != api.OK || e2 != api.OK || e3 != api.OK || e != api.OK || !meet(got, product) {
			t.Errorf("%v and %v by %d bits: %v and %v", a, b, bits, got, product)
		}
	}
}

func TestJ3LogUndoesExp(t *testing.T) {
	for i, x := range ordinary() {
		bits := widths[i%len(widths)]
		for _, y := range []api.Dyad{x, opposite(x)} {
			raised, e := Exp(y, bits)
			if e != api.OK {
				t.Fatalf("%v: error %d", y, e)
			}
			// Of a number very near to 0 an end may be 1, whose logarithm is 0 alone.
			low, e1 := Log(raised.Low, bits)
			high, e2 := Log(raised.High, bits)
			if e1 != api.OK || e2 != api.OK || value(low.Low).Cmp(value(y)) > 0 || value(high.High).Cmp(value(y)) < 0 {
				t.Errorf("%v by %d bits: from %v to %v", y, bits, low, high)
			}
		}
	}
}
