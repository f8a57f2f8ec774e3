package whole

import (
	"math/bits"

	"surd/api"
	"surd/div"
	"surd/nat"
)

// Bezout: the greatest common divisor and its factors.
func Bezout(a, b api.Whole) (api.Whole, api.Whole, api.Whole, api.Errno) {
	if isZero(b.Abs) {
		g, e := Abs(a)
		if e != api.OK {
			return api.Whole{}, api.Whole{}, api.Whole{}, e
		}
		return g, Of(Sign(a)), api.Whole{}, api.OK
	}
	g, x := common(euclidRest(a, b.Abs), b.Abs)
	if anyBig(g, x) {
		return api.Whole{}, api.Whole{}, api.Whole{}, api.ErrBig
	}
	y := otherFactor(a, b, g, x)
	if anyBig(y.Abs) {
		return api.Whole{}, api.Whole{}, api.Whole{}, api.ErrBig
	}
	return signed(false, g), signed(false, x), y, api.OK
}

// Inverse: the inverse of a modulo m.
func Inverse(a, m api.Whole) (api.Whole, api.Errno) {
	if isZero(m.Abs) {
		return api.Whole{}, api.ErrDivZero
	}
	g, x := common(euclidRest(a, m.Abs), m.Abs)
	switch {
	case !isOne(g):
		return api.Whole{}, api.ErrWholeInverse
	case anyBig(x):
		return api.Whole{}, api.ErrBig
	}
	return signed(false, x), api.OK
}

// PowMod: the rest of a^n by m.
func PowMod(a api.Whole, n api.Nat, m api.Whole) (api.Whole, api.Errno) {
	if isZero(m.Abs) {
		return api.Whole{}, api.ErrDivZero
	}
	size, e := div.Power(euclidRest(a, m.Abs), n, m.Abs)
	return answered(false, size, e)
}

// common is the greatest common divisor g of m, which is above 0, and a, which
// is less, and the least x from 0 on of which a x leaves the rest of g by m.
func common(a, m api.Nat) (api.Nat, api.Nat) {
	f := factors{y: api.Nat{1}}
	g := commonDivisor(m, a, &f)
	if f.odd || len(f.x) == 0 {
		return g, f.x
	}
	// Another x is further by m through g.
	q, _ := both(m, g)
	return g, less(q, f.x)
}

// otherFactor is Bezout's y.
func otherFactor(a, b api.Whole, g, x api.Nat) api.Whole {
	p := product(a.Abs, x)
	neg := false
	switch {
	case a.Neg:
		p = sum(g, p)
	case nat.Compare(p, g) < 0:
		p = less(g, p)
	default:
		p, neg = less(p, g), true
	}
	y, _ := both(p, b.Abs)
	return signed(neg != b.Neg, y)
}

func isOne(a api.Nat) bool { return len(a) == 1 && a[0] == 1 }

// factors are those of y, of which Euclid's two numbers are multiples modulo x,
// as he began with x and y: the factors 0 and 1 then. They have different
// signs, which change with each step: x's is above 0 behind an odd number of
// steps. Their sizes therefore only grow, and y's is not the lesser one.
type factors struct {
	x, y api.Nat
	odd  bool
}

func (f *factors) one(q api.Nat) {
	f.x, f.y = f.y, sum(f.x, product(q, f.y))
	f.odd = !f.odd
}

func (f *factors) many(s steps) {
	x, y := f.x, f.y
	for len(x) < len(y) {
		x = append(x, 0)
	}
	var over, under uint64
	for i, w := range y {
		v := x[i]
		x[i], over = blend(s.a, v, s.b, w, over)
		y[i], under = blend(s.c, v, s.d, w, under)
	}
	f.x, f.y = trim(append(x, over)), trim(append(y, under))
	f.odd = f.odd != s.odd()
}

// blend is a v + b w and a carry, as a limb and the next carry. a and b
// together are at most 2^64; so a carry is less than they are, and always fits.
func blend(a, v, b, w, carry uint64) (uint64, uint64) {
	high, low := bits.Mul64(a, v)
	high2, low2 := bits.Mul64(b, w)
	low, over := bits.Add64(low, low2, 0)
	high, _ = bits.Add64(high, high2, over)
	low, over = bits.Add64(low, carry, 0)
	return low, high + over
}
