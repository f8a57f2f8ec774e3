package div

import (
	"math/bits"

	"surd/api"
)

// bestCut is the number of limbs from which on division by blocks was the
// quicker one when quotients of all lengths were timed.
const bestCut = 60

// divide lays u through v into q and leaves the rest in u's lowest limbs, with
// noughts above. v is normal and normalised; u has just the limbs of q and v,
// and its highest ones are less than v, so that the quotient fits into q.
func divide(q, u, v api.Nat) {
	if len(q) < bestCut || len(v) < bestCut {
		byLimbs(q, u, v)
		return
	}
	most := (len(v) + 1) / 2
	for to := len(q); to > 0; {
		from := max(to-most, 0)
		byBlock(q[from:to], u[from:to+len(v)], v)
		to = from
	}
}

// byLimbs is divide by Knuth's algorithm D: limb by limb, as at school.
func byLimbs(q, u, v api.Nat) {
	for i := len(q) - 1; i >= 0; i-- {
		part := u[i : i+len(v)+1]
		q[i] = guess(part, v)
		if minusTimes(part, v, q[i]) > 0 {
			q[i]--
			plus(part, v)
		}
	}
}

// guess is the quotient of u, which has one limb more than v, or one more than
// it: by the two highest limbs of u and the highest of v, put right by the
// next ones.
func guess(u, v api.Nat) uint64 {
	n := len(v)
	top, next := v[n-1], limb(v, n-2)
	q, rest, over := firstGuess(u[n], u[n-1], top)
	for over == 0 {
		high, low := bits.Mul64(q, next)
		if high < rest || high == rest && low <= limb(u, n-2) {
			break
		}
		q--
		rest, over = bits.Add64(rest, top, 0)
	}
	return q
}

// firstGuess is high and low through top, but at most the greatest limb, with
// its rest; over is 1 where the rest has more than a limb.
func firstGuess(high, low, top uint64) (q, rest, over uint64) {
	if high < top {
		q, rest = bits.Div64(high, low, top)
		return q, rest, 0
	}
	// They are the same: u's highest limbs are less than v.
	rest, over = bits.Add64(low, top, 0)
	return ^uint64(0), rest, over
}

// byBlock is divide for a q that is shorter than v: it does with q's limbs at
// once what byLimbs does with one. They are guessed by as many limbs of v, the
// highest ones, and put right by the product with the others, which is where
// mul's ways make it quicker than school.
func byBlock(q, u, v api.Nat) {
	rest := len(v) - len(q)
	guessBlock(q, u[rest:], v[rest:])
	under := minus(u, product(q, v[:rest]))
	for under > 0 {
		minus(q, api.Nat{1})
		under -= plus(u, v)
	}
}

// guessBlock is divide for a q of v's length; but where u's highest limbs are
// v itself the quotient would not fit: then it is the greatest one that does,
// and the rest may be a limb longer than v.
func guessBlock(q, u, v api.Nat) {
	high := u[len(v):]
	for i := range v {
		if high[i] != v[i] {
			divide(q, u, v)
			return
		}
	}
	for i := range q {
		q[i] = ^uint64(0)
	}
	clear(high)
	plus(u, v)
}
