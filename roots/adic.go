package roots

import (
	"math/bits"

	"surd/api"
	"surd/nat"
)

// The functions of this file reckon modulo powers of two, where every odd
// number has an inverse, and just one p-th root for each odd p.

// limbInverse times v, which is odd, is 1 modulo 2^64. Of v's inverse v itself
// has three bits right, and each of Newton's steps doubles them.
func limbInverse(v uint64) uint64 {
	made := v
	for {
		off := 1 - made*v
		if off == 0 {
			return made
		}
		made += made * off
	}
}

// limbPower is v^n modulo 2^64.
func limbPower(v, n uint64) uint64 {
	made := uint64(1)
	for n > 0 {
		if n&1 == 1 {
			made *= v
		}
		v *= v
		n >>= 1
	}
	return made
}

// lowRoot is the number of at most that many limbs whose p-th power has as
// many of a's lowest limbs, a and p being odd; first is its lowest limb.
// Newton's steps go to the inverse of the root, since they need no division
// but by p.
func lowRoot(a api.Nat, p int, first uint64, limbs int) api.Nat {
	if limbs == 1 {
		return nat.From(first)
	}
	inverse, known := nat.From(limbInverse(first)), 1
	for {
		known = min(2*known, limbs)
		// The inverse comes nearer by its product with (1 - a inverse^p) / p.
		made := lowest(product(lowest(a, known), lowPower(inverse, p, known)), known)
		off := throughLimb(lackOfOne(made, known), uint64(p))
		inverse = lowest(sum(inverse, product(inverse, off)), known)
		if known == limbs {
			break
		}
	}
	return lowest(product(lowest(a, limbs), lowPower(inverse, p-1, limbs)), limbs)
}

// lowest is a's lowest n limbs. It shares a's memory.
func lowest(a api.Nat, n int) api.Nat { return trim(a[:min(n, len(a))]) }

// lowPower is the lowest limbs of a^n, n being above 0.
func lowPower(a api.Nat, n, limbs int) api.Nat {
	made := a
	for bit := bits.Len(uint(n)) - 2; bit >= 0; bit-- {
		made = lowest(product(made, made), limbs)
		if n>>bit&1 == 1 {
			made = lowest(product(made, a), limbs)
		}
	}
	return made
}

// lackOfOne is 1 - a, a having at most that many limbs, modulo a power of two
// with all of them: just that many limbs, noughts at the top too.
func lackOfOne(a api.Nat, limbs int) api.Nat {
	made := make(api.Nat, limbs)
	borrow, one := uint64(0), uint64(1)
	for i := range made {
		var v uint64
		if i < len(a) {
			v = a[i]
		}
		made[i], borrow = bits.Sub64(one, v, borrow)
		one = 0
	}
	return made
}

// throughLimb is the number whose product with v, an odd limb, has a's limbs:
// each limb of it follows from those below it, so that it has as many as a,
// also where a has noughts at the top.
func throughLimb(a api.Nat, v uint64) api.Nat {
	inverse := limbInverse(v)
	made := make(api.Nat, len(a))
	var borrow uint64
	for i, w := range a {
		rest, under := bits.Sub64(w, borrow, 0)
		made[i] = rest * inverse
		high, _ := bits.Mul64(made[i], v)
		borrow = high + under
	}
	return trim(made)
}
