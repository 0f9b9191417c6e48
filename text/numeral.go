package text

import (
	"strconv"
	"strings"

	"slipstick/api"
	"slipstick/digits"
)

// Bounds that the chapter names.
const (
	maxText  = 400
	maxPower = 6000
	maxAfter = 5 // digits behind `e`
)

// numeral is what stood in a text: digits, without their point, times ten to the power of power.
type numeral struct {
	neg    bool
	digits string
	power  int
}

// read a numeral.
func read(t string) (numeral, api.Errno) {
	if len(t) > maxText {
		return numeral{}, api.ErrMany
	}
	rest, neg := strings.CutPrefix(t, "-")
	rest, after, raised := strings.Cut(rest, "e")
	power, ok := 0, true
	if raised {
		power, ok = readPower(after)
	}
	whole, behind, pointed := strings.Cut(rest, ".")
	if !ok || !decimals(whole+behind) || pointed && behind == "" {
		return numeral{}, api.ErrForm
	}
	power -= len(behind)
	if power < -maxPower || power > maxPower {
		return numeral{}, api.ErrRange
	}
	return numeral{neg, whole + behind, power}, api.OK
}

// readPower reads what is behind `e`; false, if it is none.
func readPower(after string) (int, bool) {
	size, neg := strings.CutPrefix(after, "-")
	if len(size) > maxAfter || !decimals(size) {
		return 0, false
	}
	power, _ := strconv.Atoi(size)
	if neg {
		power = -power
	}
	return power, true
}

// decimals tells whether there is nothing but decimal digits in a text, and one at least.
func decimals(t string) bool {
	for i := range len(t) {
		if t[i] < '0' || t[i] > '9' {
			return false
		}
	}
	return t != ""
}

// ratio that a numeral is.
func (n numeral) ratio() api.Ratio {
	num, den := digits.FromDecimal(n.digits), digits.Number{1}
	switch {
	case len(num) == 0:
		return api.Ratio{Den: api.Nat(den)}
	case n.power > 0:
		num = num.Times(fives(n.power))
	default:
		num, den = reduced(num, -n.power)
	}
	twos := num.Twos()
	return api.Ratio{Neg: n.neg, Num: api.Nat(num.Shifted(-twos)), Den: api.Nat(den), Exp: n.power + twos}
}

// fives is 5 to the power of n.
func fives(n int) digits.Number { return digits.Number{5}.Power(n) }

// reduced is num over 5 to the power of n, without a factor that both have.
func reduced(num digits.Number, n int) (digits.Number, digits.Number) {
	for ; n > 0; n-- {
		fifth, rest := num.Over(digits.Number{5})
		if len(rest) > 0 {
			break
		}
		num = fifth
	}
	return num, fives(n)
}
