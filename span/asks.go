package span

import (
	"surd/api"
	"surd/dyadic"
)

// Has: is d among them?
func Has(a api.Span, d api.Dyadic) (bool, api.Errno) {
	switch e := fault(a); {
	case e != api.OK:
		return false, e
	case !isPosition(d.Exp):
		return false, api.ErrDyadicExp
	}
	return !less(d, a.Lo) && !less(a.Hi, d), api.OK
}

// Within: are all of a b's?
func Within(a, b api.Span) (bool, api.Errno) {
	if e := fault(a, b); e != api.OK {
		return false, e
	}
	return !less(a.Lo, b.Lo) && !less(b.Hi, a.Hi), api.OK
}

// Sign: 1, -1, or 0: not sure.
func Sign(a api.Span) (int, api.Errno) {
	if e := fault(a); e != api.OK {
		return 0, e
	}
	return sign(a), api.OK
}

// Order: -1, 1, or 0: not apart.
func Order(a, b api.Span) (int, api.Errno) {
	switch e := fault(a, b); {
	case e != api.OK:
		return 0, e
	case less(a.Hi, b.Lo):
		return -1, api.OK
	case less(b.Hi, a.Lo):
		return 1, api.OK
	}
	return 0, api.OK
}

// Width: Hi less Lo.
func Width(a api.Span) (api.Dyadic, api.Errno) {
	if e := fault(a); e != api.OK {
		return api.Dyadic{}, e
	}
	return dyadic.Sub(a.Hi, a.Lo)
}

// Middle: half their sum.
func Middle(a api.Span) (api.Dyadic, api.Errno) {
	if e := fault(a); e != api.OK {
		return api.Dyadic{}, e
	}
	return dyadic.Middle(a.Lo, a.Hi)
}

// Apart: its halves.
func Apart(a api.Span, pos int) (api.Span, api.Span, api.Errno) {
	if e := faultAt(pos, a); e != api.OK {
		return api.Span{}, api.Span{}, e
	}
	cut, e := cutOf(a, pos)
	if e != api.OK {
		return api.Span{}, api.Span{}, e
	}
	lower, e := Make(a.Lo, cut)
	upper, f := Make(cut, a.Hi)
	if e := refusal(e, f); e != api.OK {
		return api.Span{}, api.Span{}, e
	}
	return lower, upper, api.OK
}

// cutOf is where a is parted: its middle, rounded Down, or Lo. It is not
// answered yet: its normal exponent may be beyond what is.
func cutOf(a api.Span, pos int) (api.Dyadic, api.Errno) {
	middle, e := dyadic.Middle(a.Lo, a.Hi)
	if e != api.OK {
		return api.Dyadic{}, e
	}
	cut, e := floorOf(middle, pos)
	if e != api.OK {
		return api.Dyadic{}, e
	}
	return hull(a.Lo, cut).Hi, api.OK
}

// floorOf is a normal number, rounded Down. Where chapter 8's Round refuses it
// for its exponent it is told in steps of the position, not normal: if it is
// below Lo it is no end of the answer, and then nothing refuses it.
func floorOf(d api.Dyadic, pos int) (api.Dyadic, api.Errno) {
	if made, e := dyadic.Round(d, pos, api.Down); e != api.ErrDyadicExp {
		return made, e
	}
	// Only what is as high as MaxExp is refused so: both d's lowest bit and the
	// position are less than MaxBits below that, and so near each other.
	d.Exp -= pos
	steps, e := dyadic.Whole(d, api.Down)
	return api.Dyadic{Man: steps, Exp: pos}, e
}
