package ratio

import (
	"surd/api"
	"surd/div"
	"surd/nat"
)

// Add: the sum.
func Add(a, b api.Ratio) (api.Ratio, api.Errno) {
	return face(func() api.Ratio {
		meant(a, b)
		return total(a, b)
	})
}

// Sub: the difference.
func Sub(a, b api.Ratio) (api.Ratio, api.Errno) { return Add(a, opposite(b)) }

// Mul: the product.
func Mul(a, b api.Ratio) (api.Ratio, api.Errno) {
	return face(func() api.Ratio {
		meant(a, b)
		return multiplied(a, b)
	})
}

// Quo: the quotient.
func Quo(a, b api.Ratio) (api.Ratio, api.Errno) {
	return face(func() api.Ratio {
		upended := api.Ratio{Num: api.Whole{Neg: b.Num.Neg, Abs: b.Den}, Den: b.Num.Abs}
		meant(a, b, upended)
		return multiplied(a, upended)
	})
}

// total is a + b. Where both are in lowest terms, the sum's numerator has
// nothing in common but with what the denominators share, which is often short:
// so Gcd is not asked of the long products.
func total(a, b api.Ratio) api.Ratio {
	a, b = lowest(a.Num, a.Den), lowest(b.Num, b.Den)
	shared := div.Gcd(a.Den, b.Den)
	own, other := exactly(a.Den, shared), exactly(b.Den, shared)
	num := plus(times(a.Num, other), times(b.Num, own))
	made := without(num, b.Den, div.Gcd(num.Abs, shared))
	return fitting(api.Ratio{Num: made.Num, Den: product(own, made.Den)})
}

// multiplied is a b. What is too great for sure is refused ahead of all work.
func multiplied(a, b api.Ratio) api.Ratio {
	if isZero(a.Num.Abs) || isZero(b.Num.Abs) {
		return Int(0)
	}
	above := nat.Length(a.Num.Abs) + nat.Length(b.Num.Abs)
	below := nat.Length(a.Den) + nat.Length(b.Den)
	// Each product may have one bit less than its factors together.
	refuse(far(above-1, below) && far(above, below-1), api.ErrBig)
	size := product(a.Num.Abs, b.Num.Abs)
	return answered(signed(a.Num.Neg != b.Num.Neg, size), product(a.Den, b.Den))
}
