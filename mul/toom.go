package mul

import "surd/api"

// thirds lays a times b into z by Toom's five products. With parts of size
// limbs a and b are polynomials of degree 2 at 2^(64 size), and z is one of
// degree 4: it is known by its values at 0, 1, -1 and 2, and by its highest
// part. b has at least two of the parts, and is not longer than a.
func (w way) thirds(z, a, b api.Nat, size int) {
	lowest, highest := z[:2*size], z[4*size:]
	clear(z[2*size:])
	w.into(lowest, a[:size], b[:size])
	if len(b) > 2*size {
		w.into(highest, a[2*size:], b[2*size:])
	}
	x, y := valuesOf(a, size), valuesOf(b, size)
	one := w.full(x.atOne, y.atOne)
	less := w.full(x.atLess, y.atLess)
	two := w.full(x.atTwo, y.atTwo)

	// Of the values at 1 and -1 half the sum has the even parts, and half the
	// difference has the odd ones; which is which hangs on the sign at -1.
	plus(less, one)
	halfOf(less)
	minus(one, less)
	odd, even := less, one
	if x.below == y.below {
		odd, even = even, odd
	}
	minus(even, lowest)
	minus(even, highest)

	// What is left of the value at 2 is three times the third part.
	minus(two, lowest)
	halfOf(two)
	minusTimes(two, even, 2)
	minusTimes(two, highest, 8)
	minus(two, odd)
	thirdOf(two)
	minus(odd, two)

	plus(z[size:], odd)
	plus(z[2*size:], even)
	plus(z[3*size:], two)
}

// values are a polynomial's at 1, at 2, and at -1: there how far from 0 it is,
// and whether below.
type values struct {
	atOne, atTwo, atLess api.Nat
	below                bool
}

// valuesOf has the values with one limb more than a part: they are at most 7
// times as great.
func valuesOf(a api.Nat, size int) values {
	zeroth, first, second := a[:size], part(a, size, size), part(a, 2*size, size)
	more := size + 1
	room := make(api.Nat, 4*more)
	even := part(room, 0, more)
	v := values{atOne: part(room, more, more), atTwo: part(room, 2*more, more), atLess: part(room, 3*more, more)}

	copy(even, zeroth)
	plus(even, second)
	copy(v.atOne, even)
	plus(v.atOne, first)
	v.below = apart(v.atLess, even, first)
	copy(v.atTwo, zeroth)
	plusTimes(v.atTwo, first, 2)
	plusTimes(v.atTwo, second, 4)
	return v
}

// full is the product of two values, with all the limbs of both.
func (w way) full(a, b api.Nat) api.Nat {
	z := make(api.Nat, len(a)+len(b))
	w.into(z, a, b)
	return z
}
