package elem

import (
	"surd/api"
	"surd/dyadic"
)

const (
	// spare is how many places more than p a value is found with: it may be as
	// many as 64 steps off then.
	spare = 8
	// nearOff and nearEnd: a value is at most 2^-(p + nearOff) off, and an end
	// has p + nearEnd places. So an end is at most 2^-p away from where the
	// function is: that is more than twice the one and a step of the other.
	nearOff = 2
	nearEnd = 4
)

// curve is a function's value, at most 2^-(p + nearOff) off.
type curve func(x api.Dyadic, p int) api.Dyadic

// monotone is the span from what f is at low to what it is at high.
func monotone(low, high api.Dyadic, p int, f curve) api.Span {
	first, last := bothEnds(low, high, func(x api.Dyadic) api.Dyadic { return f(x, p) })
	return outward(first, last, p)
}

// bothEnds is what work makes of both ends: it is asked once where they are one
// number.
func bothEnds[T any](low, high api.Dyadic, work func(x api.Dyadic) T) (first, last T) {
	first = work(low)
	if order, _ := dyadic.Compare(low, high); order == 0 {
		return first, first
	}
	return first, work(high)
}

// outward is the span about two values and what they may be off.
func outward(low, high api.Dyadic, p int) api.Span {
	off := twoTo(-(p + nearOff))
	lo, _ := dyadic.Round(minus(low, off), -(p + nearEnd), api.Down)
	hi, _ := dyadic.Round(plus(high, off), -(p + nearEnd), api.Up)
	return api.Span{Lo: lo, Hi: hi}
}
