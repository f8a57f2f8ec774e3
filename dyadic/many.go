package dyadic

import "surd/api"

// mostTerms is how many numbers a polynomial may have.
const mostTerms = 1000

// Sum: of all.
func Sum(l ...api.Dyadic) (api.Dyadic, api.Errno) {
	if !allMean(l) {
		return api.Dyadic{}, api.ErrDyadicExp
	}
	var made api.Dyadic
	var e api.Errno
	for _, a := range l {
		if made, e = Add(made, a); e != api.OK {
			return api.Dyadic{}, e
		}
	}
	return made, api.OK
}

// Dot: of two lists.
func Dot(a, b []api.Dyadic) (api.Dyadic, api.Errno) {
	switch {
	case !allMean(a) || !allMean(b):
		return api.Dyadic{}, api.ErrDyadicExp
	case len(a) != len(b):
		return api.Dyadic{}, api.ErrArg
	}
	var made api.Dyadic
	var e api.Errno
	for i := range a {
		if made, e = withProduct(made, a[i], b[i]); e != api.OK {
			return api.Dyadic{}, e
		}
	}
	return made, api.OK
}

// Value: of a polynomial.
func Value(c []api.Dyadic, x api.Dyadic) (api.Dyadic, api.Errno) {
	switch {
	case len(c) > mostTerms:
		return api.Dyadic{}, api.ErrArg
	case !allMean(c) || !isPosition(x.Exp):
		return api.Dyadic{}, api.ErrDyadicExp
	}
	var made api.Dyadic
	var e api.Errno
	for i := len(c) - 1; i >= 0; i-- {
		if made, e = withProduct(c[i], made, x); e != api.OK {
			return api.Dyadic{}, e
		}
	}
	return made, api.OK
}

// allMean: does each of them mean something?
func allMean(l []api.Dyadic) bool {
	for _, a := range l {
		if !isPosition(a.Exp) {
			return false
		}
	}
	return true
}

// withProduct is a and b times c.
func withProduct(a, b, c api.Dyadic) (api.Dyadic, api.Errno) {
	product, e := Mul(b, c)
	if e != api.OK {
		return api.Dyadic{}, e
	}
	return Add(a, product)
}
