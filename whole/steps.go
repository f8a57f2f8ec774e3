package whole

import (
	"math/bits"

	"surd/api"
	"surd/nat"
)

// steps are some of Euclid's steps at once, after Lehmer: x and y become
// a x - b y and d y - c x, or, if they are odd in number, the negatives of
// these.
type steps struct {
	a, b, c, d uint64
	quotients  []uint64
}

// witness hears of all steps that Euclid takes, in their order: many at once,
// or one by a quotient that may be longer than a limb.
type witness interface {
	many(s steps)
	one(q api.Nat)
}

// noSteps are none as yet. Their quotients are laid into room.
func noSteps(room []uint64) steps { return steps{a: 1, d: 1, quotients: room[:0]} }

func (s steps) none() bool { return len(s.quotients) == 0 }

func (s steps) odd() bool { return len(s.quotients)%2 > 0 }

// next is with one step more: y, and x less q times y.
func (s steps) next(q uint64) steps {
	return steps{a: s.c, b: s.d, c: s.a + q*s.c, d: s.b + q*s.d, quotients: append(s.quotients, q)}
}

// sureSteps are those that x and y, of which it is handed the highest bits,
// take for sure, x being not less than y. What the lower bits add to x and y,
// in units of the lowest bit known, is less than 1 each; so the steps make of
// them less than b for x, and d for y (a and c are not greater than b and d).
// As long as y and x - y are not below 0 with all that, the steps are right.
// Each d times the x of its place is at most the first x: so none wraps, and
// those that are answered are less than 2^32.
func sureSteps(x, y uint64, room []uint64) steps {
	s := noSteps(room)
	for y > 0 {
		longer := s.next(x / y)
		x, y = y, x%y
		if y < longer.d || x-y < longer.b+longer.d {
			break
		}
		s = longer
	}
	return s
}

// limbSteps are those of two limbs, all of them, or as many as a witness can
// blend limbs by; it answers what is left of x and y, too. c and d are never
// above the first x: so none wraps.
func limbSteps(x, y uint64, room []uint64) (steps, uint64, uint64) {
	s := noSteps(room)
	for y > 0 {
		longer := s.next(x / y)
		if !mayBlend(longer.c, longer.d) {
			break
		}
		s = longer
		x, y = y, x%y
	}
	return s, x, y
}

// mayBlend tells whether v and w, as factors of limbs, together are at most
// 2^64; w is above 0.
func mayBlend(v, w uint64) bool {
	_, over := bits.Add64(v, w-1, 0)
	return over == 0
}

// highBits are the highest 64 bits of x, which has two limbs or more, and
// those of y at the same places.
func highBits(x, y api.Nat) (uint64, uint64) {
	n := len(x)
	by := bits.LeadingZeros64(x[n-1])
	at := func(a api.Nat) uint64 {
		return limb(a, n-1)<<by | limb(a, n-2)>>(limbBits-by)
	}
	return at(x), at(y)
}

// take lets x and y take the steps, in their memory. Both are then less than y
// was: its limbs are enough to know them by, and x's further ones are void.
func (s steps) take(x, y api.Nat) {
	var over, under int64
	odd := s.odd()
	for i, w := range y {
		v := x[i]
		if odd {
			x[i], over = apart(s.b, w, s.a, v, over)
			y[i], under = apart(s.c, v, s.d, w, under)
		} else {
			x[i], over = apart(s.a, v, s.b, w, over)
			y[i], under = apart(s.d, w, s.c, v, under)
		}
	}
}

// apart is a v - b w and a carry, which may be below 0, as a limb and the next
// carry. a and b are less than 2^32; so the carry always fits.
func apart(a, v, b, w uint64, carry int64) (uint64, int64) {
	high, low := bits.Mul64(a, v)
	high2, low2 := bits.Mul64(b, w)
	low, borrow := bits.Sub64(low, low2, 0)
	high, _ = bits.Sub64(high, high2, borrow)
	low, more := bits.Add64(low, uint64(carry), 0)
	// carry>>63 is the limb above a carry: -1 where that is below 0.
	high, _ = bits.Add64(high, uint64(carry>>63), more)
	return low, int64(high)
}

// commonDivisor is the greatest one of x, which is above 0, and y, which is
// less. The witness hears of the steps by which it is found.
func commonDivisor(x, y api.Nat, w witness) api.Nat {
	x, y = nat.Norm(x), nat.Norm(y)
	// So many steps the factors of 64 bits have at most, which grow at least
	// as Fibonacci's numbers do.
	room := make([]uint64, 0, 2*limbBits)
	for len(x) > 1 && len(y) > 0 {
		highX, highY := highBits(x, y)
		s := sureSteps(highX, highY, room)
		if s.none() {
			q, rest := both(x, y)
			w.one(q)
			x, y = y, rest
			continue
		}
		w.many(s)
		s.take(x, y)
		x, y = trim(x[:len(y)]), trim(y)
	}
	if len(y) == 0 {
		return x
	}
	v, rest := x[0], y[0]
	for rest > 0 {
		var s steps
		s, v, rest = limbSteps(v, rest, room)
		w.many(s)
	}
	return api.Nat{v}
}
