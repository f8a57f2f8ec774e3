package elem

import (
	"surd/api"
	"surd/consts"
	"surd/dyadic"
	"surd/span"
	"surd/whole"
)

// quarters is what is left of x when quarter turns are taken away.
func quarters(x api.Dyadic, w places) rest {
	return restOf(x, w, func(p int) (api.Span, api.Errno) {
		half, e := consts.Pi(p)
		if e != api.OK {
			return api.Span{}, e
		}
		return span.Scale(half, -1)
	})
}

// turned is which of the four quarters comes after that many and so many more.
func turned(times api.Whole, more int) int {
	low, _ := whole.Bit(times, 0)
	high, _ := whole.Bit(times, 1)
	return (low + 2*high + more) % 4
}

// passedBy tells which of the four kinds of quarter turns lie from one argument
// to another one. What may be at an end, the sign there not being sure, is
// passed.
func passedBy(first, last rest) (passed [4]bool) {
	from, to := first.times, last.times
	if first.sign() > 0 {
		from, _ = whole.Add(from, whole.Of(1))
	}
	if last.sign() < 0 {
		to, _ = whole.Sub(to, whole.Of(1))
	}
	for more := range passed {
		if at, _ := whole.Add(from, whole.Of(more)); whole.Compare(at, to) <= 0 {
			passed[turned(at, 0)] = true
		}
	}
	return passed
}

// spot is a rest with the value of the function there.
type spot struct {
	rest
	value api.Dyadic
}

// hasAllTurns: is a span so wide that there is more than a full turn in it?
func hasAllTurns(s api.Span) bool {
	// Rounding takes 1 from it at most.
	return less(plus(places(0).rounded(s.Lo), dyadic.Of(8)), places(0).rounded(s.Hi))
}

// wave is what Sin and Cos answer: the sine so many quarter turns ahead.
func wave(s api.Span, p, ahead int) (api.Span, api.Errno) {
	if e := faultBeyond(s, p, twoTo(p), api.ErrElemWide); e != api.OK {
		return api.Span{}, e
	}
	if hasAllTurns(s) {
		return outward(opposite(one()), one(), p), api.OK
	}
	first, last := bothEnds(s.Lo, s.Hi, func(x api.Dyadic) spot {
		r := quarters(x, places(p+spare))
		return spot{rest: r, value: r.sine(ahead)}
	})
	told, _ := span.Hull(point(first.value), point(last.value))
	peaks := [4]int{0, 1, 0, -1}
	for at, is := range passedBy(first.rest, last.rest) {
		if is {
			told, _ = span.Hull(told, point(dyadic.Of(peaks[(at+ahead)%4])))
		}
	}
	return outward(told.Lo, told.Hi, p), api.OK
}

// isOdd: is the tangent that of a rest beside a pole?
func (r rest) isOdd() bool { return turned(r.times, 0)%2 == 1 }

// sine is that of the argument, so many quarter turns ahead; it is less than 8
// steps off.
func (r rest) sine(ahead int) api.Dyadic {
	sine, cosine := circle(r.middle(), r.w)
	return [4]api.Dyadic{sine, cosine, opposite(sine), opposite(cosine)}[turned(r.times, ahead)]
}

// besidePoles is the tangent at x: its rest has so many places that the poles
// that the argument is behind are sure.
func besidePoles(x api.Dyadic, p int) spot {
	for w := places(p + spare); ; {
		r := quarters(x, w)
		switch need := r.needed(p); {
		case r.isLost():
			return spot{}
		case need > w:
			w = need
		default:
			return spot{rest: r, value: r.tangent(p)}
		}
	}
}

// tangent is that of the argument, few enough steps off, if the rest has as many
// places as it needs.
func (r rest) tangent(p int) api.Dyadic {
	sine, cosine := circle(r.middle(), r.w)
	if r.isOdd() {
		return places(p+spare).quotient(opposite(cosine), sine)
	}
	return places(p+spare).quotient(sine, cosine)
}

// needed is how many places the tangent at p needs. Beside a pole, where the
// sign is to be sure, that is twice as many more as the pole is places away.
func (r rest) needed(p int) places {
	switch {
	case !r.isOdd():
		return places(p + spare)
	case r.sign() == 0:
		return 2 * r.w
	}
	return places(p + spare + 2*r.depth())
}
