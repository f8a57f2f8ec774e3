package elem

import (
	"surd/api"
	"surd/series"
)

// mostBySeries is up to how many places layer 11's series are quicker than to
// take an argument to pieces. (They are told to no more than mostPlaces.)
const mostBySeries = 1 << 16

// isLong: is it more than that?
func (w places) isLong() bool { return w > mostBySeries }

// exponential is exp r, r being at most 1 in size; it is less than 2 steps off.
func exponential(r api.Dyadic, w places) api.Dyadic {
	if w.isLong() {
		return exponentialByPieces(r, w)
	}
	about, _ := series.Exp(r, int(w))
	return about.Lo
}

// circle is sine and cosine of r, which is at most 1 in size; they are less than
// 2 and 3 steps off.
func circle(r api.Dyadic, w places) (sine, cosine api.Dyadic) {
	if w.isLong() {
		return circleByPieces(r, w)
	}
	about, _ := series.Sin(r, int(w))
	return about.Lo, w.root(minus(one(), times(about.Lo, about.Lo)))
}

// arc is the arc tangent of t, t being at most 1/2 in size; it is less than 8
// steps off. A long one is found roughly first, and what it lacks is told by the
// tangent of the difference.
func arc(t api.Dyadic, w places) api.Dyadic {
	if !w.isLong() {
		about, _ := series.Atan(t, int(w))
		return about.Lo
	}
	rough := w.third()
	z := rough.rounded(arc(t, rough))
	sine, cosine := circle(z, w)
	lack := w.quotient(minus(times(t, cosine), sine), plus(cosine, times(t, sine)))
	return plus(z, lack)
}

// height is the logarithm of m, from 3/4 to 3/2; it is less than 8 steps off. A
// long one is found likewise, by the hyperbolic tangent.
func height(m api.Dyadic, w places) api.Dyadic {
	if !w.isLong() {
		about, _ := series.Atanh(w.quotient(minus(m, one()), plus(m, one())), int(w))
		return scaled(about.Lo, 1)
	}
	rough := w.third()
	z := rough.rounded(height(m, rough))
	made := exponential(z, w)
	return plus(z, scaled(w.quotient(minus(m, made), plus(m, made)), 1))
}

// third is so many places that what is lacking there is told by its tangent: the
// cube of that is less than a step.
func (w places) third() places { return w/3 + 8 }
