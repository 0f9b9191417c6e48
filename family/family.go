// Package family tells formats apart by what they have beside numbers and 0, and so by what they answer where there is
// no answer.
package family

import "slipstick/api"

// Family of formats.
type Family int

// Families: A has what is infinite, and what is no number; B has nothing else; C has a reserved operand.
const (
	A Family = 1 + iota
	B
	C
)

// Of a format; of what is no format: 0.
func Of(format int) Family {
	switch {
	case format < api.FormatSingle || format > api.FormatVaxG:
		return 0
	case format <= api.FormatExtended:
		return A
	case format <= api.FormatHexLong:
		return B
	}
	return C
}

// Nothing is the class of what a family answers where there is no answer.
func (f Family) Nothing() int { return nothings()[f] }

func nothings() map[Family]int {
	return map[Family]int{A: api.ClassNone, B: api.ClassZero, C: api.ClassReserved}
}
