package span

import (
	"surd/api"
	"surd/dyadic"
)

// fault is what is wrong with spans: of each one, from the left, an exponent or
// the order of its ends.
func fault(l ...api.Span) api.Errno {
	for _, a := range l {
		order, e := dyadic.Compare(a.Lo, a.Hi)
		switch {
		case e != api.OK:
			return e
		case order > 0:
			return api.ErrSpanOrder
		}
	}
	return api.OK
}

// faultAt is what is wrong with spans, or with the position that stands behind
// them.
func faultAt(pos int, l ...api.Span) api.Errno {
	switch e := fault(l...); {
	case e != api.OK:
		return e
	case !isPosition(pos):
		return api.ErrArg
	}
	return api.OK
}

// isPosition tells whether n is an exponent, a position or a shift that may be.
func isPosition(n int) bool { return n >= -api.MaxExp && n <= api.MaxExp }

// refusal is what a call answers where several numbers were reckoned for it, of
// which some may have been refused.
func refusal(l ...api.Errno) api.Errno {
	told := api.OK
	for _, e := range l {
		switch {
		case e == api.ErrBig:
			return e
		case e != api.OK:
			told = e
		}
	}
	return told
}

// byEnds is the span whose ends work makes of low and high: Down of the one, Up
// of the other. What an end is made of is the work's own affair.
func byEnds[T any](low, high T, work func(of T, mode api.Mode) (api.Dyadic, api.Errno)) (api.Span, api.Errno) {
	lo, e := work(low, api.Down)
	hi, f := work(high, api.Up)
	if e := refusal(e, f); e != api.OK {
		return api.Span{}, e
	}
	return api.Span{Lo: lo, Hi: hi}, api.OK
}

// outward is a, whose ends mean something, outward at a position.
func outward(a api.Span, pos int) (api.Span, api.Errno) {
	return byEnds(a.Lo, a.Hi, func(d api.Dyadic, mode api.Mode) (api.Dyadic, api.Errno) {
		return dyadic.Round(d, pos, mode)
	})
}

// outwardOf is that of a span that was reckoned, or refused.
func outwardOf(a api.Span, e api.Errno, pos int) (api.Span, api.Errno) {
	if e != api.OK {
		return api.Span{}, e
	}
	return outward(a, pos)
}

// answered is a span as a call answers it: its ends are normal, and each one is
// in new memory, though a has one number for both.
func answered(a api.Span) (api.Span, api.Errno) {
	if e := fault(a); e != api.OK {
		return api.Span{}, e
	}
	return byEnds(a.Lo, a.Hi, func(d api.Dyadic, _ api.Mode) (api.Dyadic, api.Errno) {
		return dyadic.Make(d.Man, d.Exp)
	})
}

// less: is a below b? Both mean something.
func less(a, b api.Dyadic) bool {
	order, _ := dyadic.Compare(a, b)
	return order < 0
}

// hull is the least span that has the numbers, which all mean something. Its
// ends are two of them, as they stand there.
func hull(first api.Dyadic, others ...api.Dyadic) api.Span {
	made := api.Span{Lo: first, Hi: first}
	for _, d := range others {
		if less(d, made.Lo) {
			made.Lo = d
		}
		if less(made.Hi, d) {
			made.Hi = d
		}
	}
	return made
}

// bent is the span of what becomes of a's numbers by a call that goes down to 0
// and up again, being 0 at 0: lo and hi are what becomes of a's ends.
func bent(a api.Span, lo, hi api.Dyadic) api.Span {
	if hasZero(a) {
		return hull(lo, hi, api.Dyadic{})
	}
	return hull(lo, hi)
}

// hasZero: is 0 among a's numbers?
func hasZero(a api.Span) bool { return sign(a) == 0 }

// sign is 1, if all are above 0, -1, if all are below, else 0.
func sign(a api.Span) int {
	switch {
	case dyadic.Sign(a.Lo) > 0:
		return 1
	case dyadic.Sign(a.Hi) < 0:
		return -1
	}
	return 0
}

// size is d without its sign. Chapter 8's Abs might refuse it, though it is not
// what is answered.
func size(d api.Dyadic) api.Dyadic {
	d.Man.Neg = false
	return d
}
