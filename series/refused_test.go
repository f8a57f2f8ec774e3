package series_test

import (
	"math"
	"testing"

	"surd/api"
	"surd/series"
)

// wrongPlaces are those that no p may be.
func wrongPlaces() []int {
	return []int{0, -1, -64, math.MinInt, most + 1, most + 8, 1 << 40, math.MaxInt}
}

// meaningless are numbers whose exponent says nothing.
func meaningless() []api.Dyadic {
	return []api.Dyadic{
		of(0, far+1), of(0, -far-1), of(1, far+1), of(1, -far-1), of(-1, math.MinInt), of(5, math.MaxInt), above(nil, math.MaxInt),
		above(power(far>>20), -far-1),
	}
}

// tooGreat are numbers above 2^top in size.
func tooGreat(top int) []api.Dyadic {
	out := []api.Dyadic{
		of(2, top), of(3, top-1), of(1, top+1), of(7, 0), of(1, far), of(2, far), of(1000, far), above(ones(70), far),
		above(powerAnd(1), top-1), above(powerAnd(64), top-64), above(powerAnd(5000), top-5000), above(powerAnd(api.MaxBits+9), top-api.MaxBits-9),
		above(append(powerAnd(64), 0, 0), top-64), above(api.Nat{0, 0, 0, 1}, top-191),
	}
	for _, x := range out {
		out = append(out, minus(x))
	}
	return out
}

// P11.1: the errors, and their order.
func TestRefused(t *testing.T) {
	for _, c := range calls() {
		for _, x := range meaningless() {
			for _, p := range append(wrongPlaces(), 1, 64, most) {
				got, e := c.of(x, p)
				wantErr(t, c.what+" of what means nothing", got, e, api.ErrDyadicExp)
			}
		}
		for _, p := range wrongPlaces() {
			for _, x := range append(tooGreat(c.top), shapes(c.top)...) {
				got, e := c.of(x, p)
				wantErr(t, c.what+" at no place", got, e, api.ErrArg)
			}
		}
		for _, p := range []int{1, 64, 1000, most} {
			for _, x := range tooGreat(c.top) {
				got, e := c.of(x, p)
				wantErr(t, c.what+" of what is too great", got, e, api.ErrSeriesArg)
			}
		}
	}
}

// P11.1: 1/2 and more is near enough for three of them alone.
func TestNearEnoughForSome(t *testing.T) {
	for _, x := range []api.Dyadic{of(1, 0), of(-1, 0), of(3, -2), above(powerAnd(100), -101)} {
		for _, c := range calls() {
			got, e := c.of(x, 50)
			if c.top == 0 {
				wantGood(t, c.what, got, e, 50, c.model(t, only(x), 50))
				continue
			}
			wantErr(t, c.what, got, e, api.ErrSeriesArg)
		}
	}
}

// P11.2: Part's errors.
func TestPartRefused(t *testing.T) {
	for _, hyperbolic := range []bool{false, true} {
		for _, k := range []int{1, 0, -1, -2, -5, math.MinInt, 1<<20 + 1, 1 << 40, math.MaxInt} {
			for _, p := range append(wrongPlaces(), 1, 30, most) {
				got, e := series.Part(k, hyperbolic, p)
				wantErr(t, "Part of a wrong k", got, e, api.ErrArg)
			}
		}
		for _, p := range wrongPlaces() {
			for _, k := range []int{2, 3, 239, 1 << 20} {
				got, e := series.Part(k, hyperbolic, p)
				wantErr(t, "Part at no place", got, e, api.ErrArg)
			}
		}
	}
}
