package span

import (
	"surd/api"
	"surd/dyadic"
)

// Has: is d among them?
func Has(a api.Span, d api.Dyadic) (bool, api.Errno) {
	switch e := fault(a); {
	case e != api.OK:
		return false, e
	case !isPosition(d.Exp):
		return false, api.ErrDyadicExp
	}
	return !less(d, a.Lo) && !less(a.Hi, d), api.OK
}

// Within: are all of a b's?
func Within(a, b api.Span) (bool, api.Errno) {
	if e := fault(a, b); e != api.OK {
		return false, e
	}
	return !less(a.Lo, b.Lo) && !less(b.Hi, a.Hi), api.OK
}

// Sign: 1, -1, or 0: not sure.
func Sign(a api.Span) (int, api.Errno) {
	if e := fault(a); e != api.OK {
		return 0, e
	}
	return sign(a), api.OK
}

// Order: -1, 1, or 0: not apart.
func Order(a, b api.Span) (int, api.Errno) {
	switch e := fault(a, b); {
	case e != api.OK:
		return 0, e
	case less(a.Hi, b.Lo):
		return -1, api.OK
	case less(b.Hi, a.Lo):
		return 1, api.OK
	}
	return 0, api.OK
}

// Width: Hi less Lo.
func Width(a api.Span) (api.Dyadic, api.Errno) {
	if e := fault(a); e != api.OK {
		return api.Dyadic{}, e
	}
	return dyadic.Sub(a.Hi, a.Lo)
}

// Middle: half their sum.
func Middle(a api.Span) (api.Dyadic, api.Errno) {
	if e := fault(a); e != api.OK {
		return api.Dyadic{}, e
	}
	return dyadic.Middle(a.Lo, a.Hi)
}

// Apart: its halves.
func Apart(a api.Span, pos int) (api.Span, api.Span, api.Errno) {
	if e := faultAt(pos, a); e != api.OK {
		return api.Span{}, api.Span{}, e
	}
	cut, e := cutOf(a, pos)
	if e != api.OK {
		return api.Span{}, api.Span{}, e
	}
	lower, e := Make(a.Lo, cut)
	upper, f := Make(cut, a.Hi)
	if e := refusal(e, f); e != api.OK {
		return api.Span{}, api.Span{}, e
	}
	return lower, upper, api.OK
}

// cutOf is where a is parted: its middle, rounded Down, or Lo.
func cutOf(a api.Span, pos int) (api.Dyadic, api.Errno) {
	middle, e := dyadic.Middle(a.Lo, a.Hi)
	if e != api.OK {
		return api.Dyadic{}, e
	}
	cut, e := dyadic.Round(middle, pos, api.Down)
	if e != api.OK {
		return api.Dyadic{}, e
	}
	return hull(a.Lo, cut).Hi, api.OK
}
