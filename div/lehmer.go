package div

import (
	"math/bits"

	"surd/api"
)

// steps are some of Euclid's steps at once, after Lehmer: x and y become
// a x - b y and d y - c x, or, if they are odd in number, the negatives of
// these.
type steps struct {
	a, b, c, d uint64
	odd        bool
}

// none: are they no steps at all?
func (s steps) none() bool { return s.b == 0 }

// next is with one step more: y, and x less q times y.
func (s steps) next(q uint64) steps {
	return steps{a: s.c, b: s.d, c: s.a + q*s.c, d: s.b + q*s.d, odd: !s.odd}
}

// stepsOf are the steps that x and y, of which it is handed the highest bits,
// take for sure, x being not less than y. What the lower bits add to x and y,
// in units of the lowest bit known, is less than 1 each; so the steps make of
// them less than b for x, and d for y (a and c are not greater than b and d).
// As long as y and x - y are not below 0 with all that, the steps are right.
// Each d times the x of its place is at most the first x: so none wraps, and
// those that are answered are less than 2^32.
func stepsOf(x, y uint64) steps {
	s := steps{a: 1, d: 1}
	for y > 0 {
		longer := s.next(x / y)
		x, y = y, x%y
		if y < longer.d || x-y < longer.b+longer.d {
			break
		}
		s = longer
	}
	return s
}

// highBits are the highest 64 bits of x, which has two limbs or more, and
// those of y at the same places.
func highBits(x, y api.Nat) (uint64, uint64) {
	n := len(x)
	by := bits.LeadingZeros64(x[n-1])
	at := func(a api.Nat) uint64 {
		return limb(a, n-1)<<by | limb(a, n-2)>>(limbBits-by)
	}
	return at(x), at(y)
}

// take lets x and y take the steps, in their memory. Both are then less than y
// was: its limbs are enough to know them by, and x's further ones are void.
func (s steps) take(x, y api.Nat) {
	var over, under int64
	for i, w := range y {
		v := x[i]
		if s.odd {
			x[i], over = less(s.b, w, s.a, v, over)
			y[i], under = less(s.c, v, s.d, w, under)
		} else {
			x[i], over = less(s.a, v, s.b, w, over)
			y[i], under = less(s.d, w, s.c, v, under)
		}
	}
}

// less is a v - b w and a carry, which may be below 0, as a limb and the next
// carry. a and b are less than 2^32; so the carry always fits.
func less(a, v, b, w uint64, carry int64) (uint64, int64) {
	high, low := bits.Mul64(a, v)
	high2, low2 := bits.Mul64(b, w)
	low, borrow := bits.Sub64(low, low2, 0)
	high, _ = bits.Sub64(high, high2, borrow)
	low, more := bits.Add64(low, uint64(carry), 0)
	// carry>>63 is the limb above a carry: -1 where that is below 0.
	high, _ = bits.Add64(high, uint64(carry>>63), more)
	return low, int64(high)
}
