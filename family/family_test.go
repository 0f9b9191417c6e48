package family

import (
	"math"
	"testing"

	"slipstick/api"
)

func TestF2Families(t *testing.T) {
	for format, want := range map[int]struct {
		family  Family
		nothing int
	}{
		api.FormatSingle:   {A, api.ClassNone},
		api.FormatDouble:   {A, api.ClassNone},
		api.FormatExtended: {A, api.ClassNone},
		api.FormatHexShort: {B, api.ClassZero},
		api.FormatHexLong:  {B, api.ClassZero},
		api.FormatVaxF:     {C, api.ClassReserved},
		api.FormatVaxD:     {C, api.ClassReserved},
		api.FormatVaxG:     {C, api.ClassReserved},
		math.MinInt:        {},
		0:                  {},
		9:                  {},
		math.MaxInt:        {},
	} {
		if f := Of(format); f != want.family || f.Nothing() != want.nothing {
			t.Errorf("format %d: family %d, and its nothing is of class %d", format, f, f.Nothing())
		}
	}
}
