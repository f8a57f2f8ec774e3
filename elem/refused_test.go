package elem_test

import (
	"math"
	"testing"

	"surd/api"
	"surd/dyadic"
)

// wrongPlaces are those that no p may be.
func wrongPlaces() []int {
	return []int{0, -1, -64, math.MinInt, most + 1, most + 8, 1 << 40, math.MaxInt}
}

// meaningless are numbers whose exponent says nothing.
func meaningless() []api.Dyadic {
	return []api.Dyadic{of(0, far+1), of(0, -far-1), of(1, far+1), of(-1, -far-1), of(-1, math.MinInt), of(5, math.MaxInt)}
}

// P13.1: what is wrong with any span, ahead of all else.
func TestRefusedSpans(t *testing.T) {
	for _, c := range calls() {
		for _, p := range append(wrongPlaces(), 1, 64, most) {
			for _, x := range meaningless() {
				for _, s := range []api.Span{only(x), {Lo: x, Hi: of(1, -1)}, {Lo: of(1, -1), Hi: x}, {Lo: of(1, 1), Hi: x}, {Lo: x, Hi: of(-9, 60)}} {
					got, e := c.of(s, p)
					wantErr(t, c.what+" of what means nothing", got, e, api.ErrDyadicExp)
				}
			}
			for _, s := range []api.Span{
				{Lo: of(1, 0), Hi: of(1, -1)}, {Lo: of(1, -far), Hi: api.Dyadic{}}, {Lo: of(1, 0), Hi: of(-1, far)},
				{Lo: of(1, far), Hi: of(1, 0)}, {Lo: add(t, of(1, -1), of(1, -5000)), Hi: of(1, -1)},
			} {
				got, e := c.of(s, p)
				wantErr(t, c.what+" of ends in no order", got, e, api.ErrSpanOrder)
			}
		}
	}
}

// P13.1: no p, ahead of what is wrong with the numbers.
func TestRefusedPlaces(t *testing.T) {
	for _, c := range calls() {
		for _, p := range wrongPlaces() {
			for _, s := range []api.Span{{}, only(of(1, -1)), {Lo: of(-1, far), Hi: of(1, far)}, {Lo: of(1, -1), Hi: of(2, 0)}} {
				got, e := c.of(s, p)
				wantErr(t, c.what+" at no place", got, e, api.ErrArg)
			}
		}
		got, e := c.of(only(of(1, -1)), 1)
		if e != api.OK || dyadic.Sign(got.Hi) <= 0 && c.what != "Ln" {
			t.Errorf("%s at 1: %v, error %d", c.what, short(got), e)
		}
	}
}

// limit is where a call's numbers end at p, and what is answered beyond.
func (c call) limit(p int) (low, high api.Dyadic, e api.Errno) {
	switch c.what {
	case "Exp":
		return of(-1, far), of(p, 0), api.ErrElemWide
	case "Ln":
		return of(1, -far), of(1, far), api.ErrElemDomain
	case "Sin", "Cos", "Tan":
		return of(-1, p), of(1, p), api.ErrElemWide
	case "Sinh", "Cosh":
		return of(-p, 0), of(p, 0), api.ErrElemWide
	case "Asin", "Acos":
		return of(-1, 0), of(1, 0), api.ErrElemDomain
	}
	return of(-1, far), of(1, far), api.OK
}

// P13.1: numbers beyond a limit, by little and by much, and those at it, which
// may be.
func TestRefusedNumbers(t *testing.T) {
	for _, c := range calls() {
		for _, p := range []int{1, 2, 3, 10, 64, 1000} {
			low, high, wanted := c.limit(p)
			for _, s := range []api.Span{only(low), only(high)} {
				if got, e := c.of(s, p); e != api.OK {
					t.Errorf("%s at its limit, at %d: %v, error %d", c.what, p, short(got), e)
				}
			}
			if wanted == api.OK {
				continue
			}
			var beyond []api.Span
			if high.Exp < far {
				for _, x := range []api.Dyadic{add(t, high, of(1, 0)), add(t, high, of(1, -3000)), of(1, p+9), of(1, far)} {
					beyond = append(beyond, only(x), api.Span{Lo: low, Hi: x}, api.Span{Lo: high, Hi: x}, api.Span{Lo: of(1, -1), Hi: x})
				}
			}
			if low.Exp < far && c.what != "Ln" {
				for _, x := range []api.Dyadic{add(t, low, of(-1, 0)), add(t, low, of(-1, -3000)), of(-1, p+9), of(-1, far)} {
					beyond = append(beyond, only(x), api.Span{Lo: x, Hi: low}, api.Span{Lo: x, Hi: high}, api.Span{Lo: x, Hi: of(-1, -1)})
				}
			}
			if c.what == "Ln" {
				for _, x := range []api.Dyadic{{}, of(0, far), {Man: api.Whole{Neg: true}}, of(-1, -far), of(-1, 0), of(-1, far)} {
					beyond = append(beyond, only(x), api.Span{Lo: x, Hi: of(1, -far)}, api.Span{Lo: x, Hi: of(5, 0)}, api.Span{Lo: x, Hi: of(1, far)})
				}
			}
			for _, s := range beyond {
				got, e := c.of(s, p)
				wantErr(t, c.what+" beyond its limit", got, e, wanted)
			}
		}
	}
}

// P13.1: the tangent is refused for its ends ahead of the poles between them.
func TestRefusedPoles(t *testing.T) {
	for _, p := range []int{1, 2, 10, 64, 500} {
		got, e := named("Tan").of(api.Span{Lo: of(1, 0), Hi: add(t, of(1, p), of(1, -1))}, p)
		wantErr(t, "Tan beyond its limit, over poles", got, e, api.ErrElemWide)
		got, e = named("Tan").of(api.Span{Lo: add(t, of(-1, p), of(-1, -1)), Hi: of(2, 0)}, p)
		wantErr(t, "Tan beyond its limit, over poles", got, e, api.ErrElemWide)
		for _, s := range []api.Span{{Lo: of(1, 0), Hi: of(2, 0)}, {Lo: of(-2, 0), Hi: of(-1, 0)}, {Lo: of(-2, 0), Hi: of(2, 0)}} {
			got, e := named("Tan").of(s, p)
			wantErr(t, "Tan over a pole", got, e, api.ErrElemDomain)
		}
	}
}
