package span

import (
	"surd/api"
	"surd/dyadic"
	"surd/rounded"
)

// mostPower is the greatest exponent of a power.
const mostPower = 1000

// pair is an end of one span and one of another.
type pair struct{ a, b api.Dyadic }

// Add: sums.
func Add(a, b api.Span, pos int) (api.Span, api.Errno) { return joined(a, b, pos, sums) }

// Sub: differences.
func Sub(a, b api.Span, pos int) (api.Span, api.Errno) { return joined(a, b, pos, differences) }

// Mul: products.
func Mul(a, b api.Span, pos int) (api.Span, api.Errno) { return joined(a, b, pos, products) }

// joined is what a call of two spans answers, whose work reckons the least span
// that has all results from their ends.
func joined(a, b api.Span, pos int, work func(a, b api.Span) (api.Span, api.Errno)) (api.Span, api.Errno) {
	if e := faultAt(pos, a, b); e != api.OK {
		return api.Span{}, e
	}
	made, e := work(a, b)
	return outwardOf(made, e, pos)
}

func sums(a, b api.Span) (api.Span, api.Errno) {
	return byEnds(pair{a.Lo, b.Lo}, pair{a.Hi, b.Hi}, func(p pair, _ api.Mode) (api.Dyadic, api.Errno) {
		return dyadic.Add(p.a, p.b)
	})
}

func differences(a, b api.Span) (api.Span, api.Errno) {
	return byEnds(pair{a.Lo, b.Hi}, pair{a.Hi, b.Lo}, func(p pair, _ api.Mode) (api.Dyadic, api.Errno) {
		return dyadic.Sub(p.a, p.b)
	})
}

// The least and the greatest product can be any of the four.
func products(a, b api.Span) (api.Span, api.Errno) {
	var made [4]api.Dyadic
	var errs [4]api.Errno
	for i, p := range [4]pair{{a.Lo, b.Lo}, {a.Lo, b.Hi}, {a.Hi, b.Lo}, {a.Hi, b.Hi}} {
		made[i], errs[i] = dyadic.Mul(p.a, p.b)
	}
	if e := refusal(errs[:]...); e != api.OK {
		return api.Span{}, e
	}
	return hull(made[0], made[1:]...), api.OK
}

// Square: squares.
func Square(a api.Span, pos int) (api.Span, api.Errno) { return Pow(a, 2, pos) }

// Pow: n-th powers.
func Pow(a api.Span, n int, pos int) (api.Span, api.Errno) {
	switch e := fault(a); {
	case e != api.OK:
		return api.Span{}, e
	case n < 0 || n > mostPower || !isPosition(pos):
		return api.Span{}, api.ErrArg
	}
	made, e := byEnds(a.Lo, a.Hi, func(d api.Dyadic, _ api.Mode) (api.Dyadic, api.Errno) {
		return dyadic.Pow(d, n)
	})
	// The 0th power of 0 is 1, as of all others: nothing is bent there.
	if n > 0 && n%2 == 0 {
		made = bent(a, made.Lo, made.Hi)
	}
	return outwardOf(made, e, pos)
}

// Inverse: 1 divided by them.
func Inverse(a api.Span, pos int) (api.Span, api.Errno) {
	one := dyadic.Of(1)
	switch e := faultAt(pos, a); {
	case e != api.OK:
		return api.Span{}, e
	case hasZero(a):
		return api.Span{}, api.ErrSpanZero
	}
	return divided(pair{one, a.Hi}, pair{one, a.Lo}, pos)
}

// Quo: quotients.
func Quo(a, b api.Span, pos int) (api.Span, api.Errno) {
	switch e := faultAt(pos, a, b); {
	case e != api.OK:
		return api.Span{}, e
	case hasZero(b):
		return api.Span{}, api.ErrSpanZero
	}
	least, greatest := quotients(a, b)
	return divided(least, greatest, pos)
}

// divided is the span from the quotient of one pair to that of another one,
// outward.
func divided(least, greatest pair, pos int) (api.Span, api.Errno) {
	return byEnds(least, greatest, func(p pair, mode api.Mode) (api.Dyadic, api.Errno) {
		return rounded.Quo(p.a, p.b, pos, mode)
	})
}

// quotients are the ends that make the least and the greatest quotient by what
// has no 0. They are told by signs: of a quotient that is not an end nothing
// may be asked, as it might be refused.
func quotients(a, b api.Span) (least, greatest pair) {
	near, far := b.Lo, b.Hi
	if sign(b) < 0 {
		near, far = far, near
		a.Lo, a.Hi = a.Hi, a.Lo
	}
	least, greatest = pair{a.Lo, near}, pair{a.Hi, near}
	if dyadic.Sign(a.Lo)*sign(b) > 0 {
		least.b = far
	}
	if dyadic.Sign(a.Hi)*sign(b) < 0 {
		greatest.b = far
	}
	return least, greatest
}

// Sqrt: second roots.
func Sqrt(a api.Span, pos int) (api.Span, api.Errno) {
	switch e := faultAt(pos, a); {
	case e != api.OK:
		return api.Span{}, e
	case dyadic.Sign(a.Lo) < 0:
		return api.Span{}, api.ErrSpanRoot
	}
	return byEnds(a.Lo, a.Hi, func(d api.Dyadic, mode api.Mode) (api.Dyadic, api.Errno) {
		return rounded.Sqrt(d, pos, mode)
	})
}
