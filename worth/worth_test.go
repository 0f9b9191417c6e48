package worth

import (
	"math"
	"slices"
	"testing"

	"slipstick/api"
)

func TestRead(t *testing.T) {
	for _, l := range []struct {
		format int
		s      string
		class  int
		want   api.Dyad
		e      api.Errno
	}{
		{api.FormatSingle, "\x40\x40\x00\x00", api.ClassNumber, api.Dyad{Mantissa: api.Nat{3}}, api.OK},
		{api.FormatHexShort, "\xc0\x20\x00\x00", api.ClassNumber, api.Dyad{Neg: true, Mantissa: api.Nat{1}, Exp: -3}, api.OK},
		{api.FormatHexShort, "\x00\x00\x00\x01", api.ClassNumber, api.Dyad{Mantissa: api.Nat{1}, Exp: -280}, api.OK},
		{api.FormatExtended, "\x01\x00\x00\x00\x00\x00\x00\x00\x00\x00", api.ClassNumber, api.Dyad{Mantissa: api.Nat{1}, Exp: -16445}, api.OK},
		{api.FormatExtended, "\x01\x00\x00\x00\x00\x00\x00\x80\xfe\x7f", api.ClassNumber, api.Dyad{Mantissa: api.Nat{1, 1 << 31}, Exp: 16320}, api.OK},
		{api.FormatSingle, "\x80\x00\x00\x00", api.ClassZero, api.Dyad{}, api.OK},
		{api.FormatSingle, "\xff\x80\x00\x00", api.ClassInfinite, api.Dyad{}, api.OK},
		{api.FormatSingle, "\x7f\xc0\x00\x00", api.ClassNone, api.Dyad{}, api.OK},
		{api.FormatVaxF, "\x00\x80\x00\x00", api.ClassReserved, api.Dyad{}, api.OK},
		{api.FormatVaxF, "\x00\x80\x00", 0, api.Dyad{}, api.ErrForm},
		{0, "\x00\x80\x00", 0, api.Dyad{}, api.ErrKind},
		{math.MaxInt, "", 0, api.Dyad{}, api.ErrKind},
	} {
		v, x, e := Read(l.format, l.s)
		if v.Class != l.class || x.Neg != l.want.Neg || !slices.Equal(x.Mantissa, l.want.Mantissa) || x.Exp != l.want.Exp || e != l.e {
			t.Errorf("%x of %d: class %d, %v, error %d", l.s, l.format, v.Class, x, e)
		}
	}
}

func TestRatio(t *testing.T) {
	q := Ratio(api.Dyad{Neg: true, Mantissa: api.Nat{5, 7}, Exp: -9})
	if !q.Neg || !slices.Equal(q.Num, api.Nat{5, 7}) || !slices.Equal(q.Den, api.Nat{1}) || q.Exp != -9 {
		t.Errorf("%v", q)
	}
}
