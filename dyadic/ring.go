package dyadic

import (
	"surd/api"
	"surd/whole"
)

// Neg: -a.
func Neg(a api.Dyadic) (api.Dyadic, api.Errno) {
	n, e := seen(a)
	n.neg = !n.neg
	return answered(n, e)
}

// Abs: its size.
func Abs(a api.Dyadic) (api.Dyadic, api.Errno) {
	n, e := seen(a)
	n.neg = false
	return answered(n, e)
}

// Add: a + b.
func Add(a, b api.Dyadic) (api.Dyadic, api.Errno) { return joined(a, b, plus) }

// Sub: a - b.
func Sub(a, b api.Dyadic) (api.Dyadic, api.Errno) { return joined(a, b, minus) }

// Mul: a b.
func Mul(a, b api.Dyadic) (api.Dyadic, api.Errno) { return joined(a, b, times) }

// Pow: a to the power of n.
func Pow(a api.Dyadic, n int) (api.Dyadic, api.Errno) {
	x, e := read(a)
	switch {
	case e != api.OK:
		return api.Dyadic{}, e
	case n < 0:
		return api.Dyadic{}, api.ErrArg
	}
	// A power of an odd number is odd: it is ErrBig just if the answer is.
	man, e := whole.Pow(x.man(), n)
	switch {
	case e != api.OK:
		return api.Dyadic{}, e
	case n > 0 && max(x.exp, -x.exp) > api.MaxExp/n:
		// The exponents' product might wrap.
		return api.Dyadic{}, api.ErrDyadicExp
	}
	return number{part: partOf(man), exp: x.exp * n}.answer()
}

// Scale: a times 2^k.
func Scale(a api.Dyadic, k int) (api.Dyadic, api.Errno) {
	n, e := seen(a)
	switch {
	case e != api.OK:
		return api.Dyadic{}, e
	case !isPosition(k):
		return api.Dyadic{}, api.ErrArg
	}
	n.exp += k
	return n.answer()
}

// Min: the lesser one.
func Min(a, b api.Dyadic) (api.Dyadic, api.Errno) { return joined(a, b, lesser) }

// Max: the greater one.
func Max(a, b api.Dyadic) (api.Dyadic, api.Errno) { return joined(a, b, greater) }

// Middle: half their sum.
func Middle(a, b api.Dyadic) (api.Dyadic, api.Errno) { return joined(a, b, middle) }

// answered is what a call answers that has made a number, or an error.
func answered(n number, e api.Errno) (api.Dyadic, api.Errno) {
	if e != api.OK {
		return api.Dyadic{}, e
	}
	return n.answer()
}

// joined is what a call of two dyadics answers, whose work takes normal numbers
// and refuses only what is too great for an answer.
func joined(a, b api.Dyadic, work func(a, b number) (number, api.Errno)) (api.Dyadic, api.Errno) {
	x, e := read(a)
	if e != api.OK {
		return api.Dyadic{}, e
	}
	y, e := read(b)
	if e != api.OK {
		return api.Dyadic{}, e
	}
	return answered(work(x, y))
}

// plus is a + b.
func plus(a, b number) (number, api.Errno) {
	switch {
	case a.isZero():
		return b, api.OK
	case b.isZero():
		return a, api.OK
	case a.exp > b.exp:
		return plus(b, a)
	}
	gap := b.exp - a.exp
	// Where b lies wholly above a, with a place between them, the sum's top is
	// b's or one less; and it is odd, as a is. Its length is told by that ahead
	// of a shift for which there might be no room.
	if gap > a.length()+1 && b.top()-a.exp > api.MaxBits {
		return number{}, api.ErrBig
	}
	b.size = shifted(b.size, gap)
	return number{part: a.total(b.part), exp: a.exp}, api.OK
}

// minus is a - b.
func minus(a, b number) (number, api.Errno) {
	b.neg = !b.neg
	return plus(a, b)
}

// times is a b. Both are odd, and so is the product: it is ErrBig just if the
// answer is.
func times(a, b number) (number, api.Errno) {
	man, e := whole.Mul(a.man(), b.man())
	return number{part: partOf(man), exp: a.exp + b.exp}, e
}

// lesser is the lesser one of two.
func lesser(a, b number) (number, api.Errno) {
	if compare(b, a) < 0 {
		return b, api.OK
	}
	return a, api.OK
}

// greater is the greater one of two.
func greater(a, b number) (number, api.Errno) {
	if compare(b, a) > 0 {
		return b, api.OK
	}
	return a, api.OK
}

// middle is half the sum of two.
func middle(a, b number) (number, api.Errno) {
	n, e := plus(a, b)
	n.exp--
	return n, e
}
