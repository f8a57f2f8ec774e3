package consts_test

import (
	"math"
	"testing"

	"surd/api"
	"surd/consts"
	"surd/whole"
)

// wantErr asks for ErrArg, and for nothing beside it.
func wantErr(t *testing.T, what string, got api.Span, e api.Errno) {
	t.Helper()
	if e != api.ErrArg || !sameSpan(got, api.Span{}) {
		t.Errorf("%s: %v, error %d", what, short(got), e)
	}
}

// wrongPrecisions are no precisions.
func wrongPrecisions() []int {
	return []int{-1, -2, -64, -api.MaxConst, math.MinInt, api.MaxConst + 1, api.MaxConst + 2, 1 << 26, 1 << 40, math.MaxInt - 1, math.MaxInt}
}

// wrongAbove are wrong for each k, whatever the least is.
func wrongAbove() []int {
	return []int{0, -1, -2, -5, -api.MaxIndex, math.MinInt, api.MaxIndex + 1, 1 << 15, 1 << 31, 1 << 32, math.MaxInt - 1, math.MaxInt}
}

// wrongConsts are none: those beside api's are not asked for by number.
func wrongConsts() []api.Const {
	return []api.Const{-1, api.ConstE + 1, api.ConstE + 2, api.ConstE + 3, 64, math.MinInt, math.MaxInt}
}

// P12.1, P12.11: no precision.
func TestRefusedConstants(t *testing.T) {
	for _, p := range wrongPrecisions() {
		for _, c := range constants() {
			got, e := c.of(p)
			wantErr(t, c.what, got, e)
		}
	}
}

// P12.2, P12.3: no precision, or no k.
func TestRefusedParts(t *testing.T) {
	calls := []struct {
		what  string
		least int
		of    func(k, p int) (api.Span, api.Errno)
	}{{"Arctan", 2, consts.Arctan}, {"Arctanh", 2, consts.Arctanh}, {"Ln", 1, consts.Ln}}
	for _, c := range calls {
		for _, k := range append(wrongAbove(), c.least-1) {
			for _, p := range append(wrongPrecisions(), 0, 100, api.MaxConst) {
				got, e := c.of(k, p)
				wantErr(t, c.what+" of a wrong k", got, e)
			}
		}
		for _, k := range []int{c.least, c.least + 1, 239, api.MaxIndex} {
			for _, p := range wrongPrecisions() {
				got, e := c.of(k, p)
				wantErr(t, c.what+" at no precision", got, e)
			}
			if got, e := c.of(k, 50); e != api.OK {
				t.Errorf("%s of %d: %v, error %d", c.what, k, got, e)
			}
		}
	}
}

// P12.4: no constant, or no precision.
func TestRefusedBits(t *testing.T) {
	refused := func(c api.Const, p int) {
		if got, e := consts.Bits(c, p); e != api.ErrArg || !sameWhole(got, api.Whole{}) {
			t.Errorf("Bits(%d, %d) is %s, error %d", c, p, whole.Print(got), e)
		}
	}
	for _, c := range wrongConsts() {
		for _, p := range append(wrongPrecisions(), 0, 1, 100) {
			refused(c, p)
		}
	}
	for _, c := range bitted() {
		for _, p := range wrongPrecisions() {
			refused(c, p)
		}
	}
}

// P12.5: no constant, no base, or no place.
func TestRefusedDigit(t *testing.T) {
	refused := func(c api.Const, base, i int) {
		if got, e := consts.Digit(c, base, i); e != api.ErrArg || got != 0 {
			t.Errorf("Digit(%d, %d, %d) is %d, error %d", c, base, i, got, e)
		}
	}
	wrongBases := []int{0, 1, -1, -2, -10, 37, 64, 256, 1 << 32, math.MinInt, math.MaxInt}
	wrongPlaces := []int{-1, -2, math.MinInt, api.MaxPlaces + 1, 1 << 40, math.MaxInt}
	for _, c := range wrongConsts() {
		for _, base := range append(wrongBases, 2, 10, 36) {
			for _, i := range append(wrongPlaces, 0, 1, api.MaxPlaces) {
				refused(c, base, i)
			}
		}
	}
	for _, c := range bitted() {
		for _, base := range wrongBases {
			for _, i := range append(wrongPlaces, 0, 1, api.MaxPlaces) {
				refused(c, base, i)
			}
		}
		for _, base := range []int{2, 3, 10, 36} {
			for _, i := range wrongPlaces {
				refused(c, base, i)
			}
		}
	}
}
