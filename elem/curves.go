package elem

import (
	"surd/api"
	"surd/consts"
	"surd/dyadic"
	"surd/nat"
	"surd/whole"
)

// The functions of this file are at most 2^-(p + nearOff) off.

// power is exp x.
func power(x api.Dyadic, p int) api.Dyadic {
	if less(x, dyadic.Of(-p-nearOff)) {
		return api.Dyadic{}
	}
	w := places(p + spare + growth(x))
	r := restOf(x, w, consts.LnTwo)
	twos, _ := whole.Int(r.times)
	return scaled(exponential(r.middle(), w), twos)
}

// growth is an n so that exp x is at most 2^n.
func growth(x api.Dyadic) int {
	up, _ := dyadic.Whole(x, api.Up)
	n, _ := whole.Int(up)
	if n > 0 {
		return n + n/2 + 1
	}
	return n
}

// logarithm is that of x, which is above 0. x may have any length, and its
// exponent, as it is normal, may be beyond MaxExp: so it is made a number from 1
// to 2 first.
func logarithm(x api.Dyadic, p int) api.Dyadic {
	w := places(p + spare)
	bits := nat.Length(x.Man.Abs)
	m, twos := w.rounded(api.Dyadic{Man: x.Man, Exp: 1 - bits}), x.Exp+bits-1
	if less(api.Dyadic{Man: whole.Of(3), Exp: -1}, m) {
		m, twos = scaled(m, -1), twos+1
	}
	made := height(m, w)
	if twos == 0 {
		return made
	}
	// No count of twos has as many bits as that.
	const more = 48
	each, _ := consts.LnTwo(int(w) + more)
	return plus(made, times(dyadic.Of(twos), each.Lo))
}

// hyperbolicSine is half of exp x less exp -x.
func hyperbolicSine(x api.Dyadic, p int) api.Dyadic {
	up := power(size(x), p+1)
	return signed(scaled(minus(up, places(p+spare).quotient(one(), up)), -1), x)
}

// hyperbolicCosine is half of exp x and exp -x.
func hyperbolicCosine(x api.Dyadic, p int) api.Dyadic {
	up := power(size(x), p+1)
	return scaled(plus(up, places(p+spare).quotient(one(), up)), -1)
}

// arcTangent is that of x: the arc of a number of at most 1/2 in size, and some
// eighth turns.
func arcTangent(x api.Dyadic, p int) api.Dyadic {
	w := places(p + spare)
	rise := size(x)
	if less(twoTo(p+nearOff+1), rise) {
		return signed(eighths(2, w), x)
	}
	rise = w.rounded(rise)
	switch {
	case !less(twoTo(-1), rise):
		return signed(arc(rise, w), x)
	case !less(twoTo(1), rise):
		t := w.quotient(minus(rise, one()), plus(rise, one()))
		return signed(plus(eighths(1, w), arc(t, w)), x)
	}
	return signed(minus(eighths(2, w), arc(w.quotient(one(), rise), w)), x)
}

// eighths is so many eighth turns, a step off at most.
func eighths(n int, w places) api.Dyadic {
	half, _ := consts.Pi(int(w))
	return scaled(times(dyadic.Of(n), half.Lo), -2)
}

// arcSine is twice the arc tangent of x through 1 and the root of 1 - x^2. That
// root is told well of what is near 1 too, if x has twice as many places.
func arcSine(x api.Dyadic, p int) api.Dyadic {
	w := places(p + spare)
	x = (2 * w).rounded(x)
	root := w.root(minus(one(), times(x, x)))
	return scaled(arcTangent(w.quotient(x, plus(one(), root)), p+2), 1)
}

// arcCosine is a quarter turn less the arc sine.
func arcCosine(x api.Dyadic, p int) api.Dyadic {
	return minus(eighths(2, places(p+spare)), arcSine(x, p+1))
}
