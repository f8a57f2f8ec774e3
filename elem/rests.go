package elem

import (
	"surd/api"
	"surd/dyadic"
	"surd/span"
)

// rest is what is left of an argument when so many of a unit are taken away. It
// lies in the span, which is at most 1 in size and 3 steps wide. A rest without
// places is lost: the unit is not told to so many.
type rest struct {
	api.Span
	w     places
	times api.Whole
}

// unit is an enclosure of a constant at p.
type unit func(p int) (api.Span, api.Errno)

// restOf is what is left of x.
func restOf(x api.Dyadic, w places, u unit) rest {
	return rest{Span: w.outward(x), w: w}.reduced(u)
}

// reduced is a rest of which none were taken yet, less that many units.
func (r rest) reduced(u unit) rest {
	if !less(one(), size(r.Lo)) && !less(one(), size(r.Hi)) {
		return r
	}
	// How many there are is told by few places well enough: less than 0.6 of a
	// unit is left. The unit itself has so many places more that, taken as often
	// as that, it is off by a small part of a step.
	const more = 8
	top, _ := dyadic.Top(r.Lo)
	few := places(more + max(top, 0))
	about, e := u(int(r.w + few))
	if e != api.OK {
		return rest{}
	}
	taken := places(0).quotient(places(more).rounded(r.Lo), few.rounded(about.Lo))
	all, _ := span.Mul(api.Span{Lo: taken, Hi: taken}, about, -int(r.w))
	r.Span, _ = span.Sub(r.Span, all, -int(r.w))
	r.times, _ = dyadic.Whole(taken, api.Near)
	return r
}

// isLost: is there nothing left that is told?
func (r rest) isLost() bool { return r.w == 0 }

// middle is less than 2 steps off from what is left.
func (r rest) middle() api.Dyadic {
	made, _ := span.Middle(r.Span)
	return made
}

// sign is 0 where it is not sure.
func (r rest) sign() int {
	made, _ := span.Sign(r.Span)
	return made
}

// depth is so that what is left, if its sign is sure, is at least 2^-depth.
func (r rest) depth() int {
	lo, _ := dyadic.Top(r.Lo)
	hi, _ := dyadic.Top(r.Hi)
	return max(-lo, -hi, 0)
}
