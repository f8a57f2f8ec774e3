package div

import (
	"math/bits"

	"surd/api"
	"surd/mul"
)

// The functions of this file work on limbs, most of them in place: what nat
// and mul answer has at most MaxBits bits, and numbers on the way may have
// more.

// mostLimbs is how many limbs a number has that mul does not refuse.
const mostLimbs = api.MaxBits / limbBits

// limb reads a as if noughts without end stood at its top and at its bottom.
func limb(a api.Nat, i int) uint64 {
	if i < 0 || i >= len(a) {
		return 0
	}
	return a[i]
}

// shiftUp lays a 2^by, by being less than a limb's bits, into z's lowest
// limbs, and answers the limb above them.
func shiftUp(z, a api.Nat, by int) uint64 {
	var carry uint64
	for i, v := range a {
		z[i] = v<<by | carry
		carry = v >> (limbBits - by)
	}
	return carry
}

// shiftDown lays a through 2^by, by being less than a limb's bits, into z,
// which has a's length.
func shiftDown(z, a api.Nat, by int) {
	var carry uint64
	for i := len(a) - 1; i >= 0; i-- {
		v := a[i]
		z[i] = v>>by | carry
		carry = v << (limbBits - by)
	}
}

// plus adds a to z, which is not shorter, and answers the carry.
func plus(z, a api.Nat) uint64 {
	var carry uint64
	for i, v := range a {
		z[i], carry = bits.Add64(z[i], v, carry)
	}
	for i := len(a); carry > 0 && i < len(z); i++ {
		z[i], carry = bits.Add64(z[i], carry, 0)
	}
	return carry
}

// minus takes a from z, which is not shorter, and answers the borrow.
func minus(z, a api.Nat) uint64 {
	var borrow uint64
	for i, v := range a {
		z[i], borrow = bits.Sub64(z[i], v, borrow)
	}
	for i := len(a); borrow > 0 && i < len(z); i++ {
		z[i], borrow = bits.Sub64(z[i], borrow, 0)
	}
	return borrow
}

// minusTimes takes a times m from z, which is longer than a, and answers the
// borrow.
func minusTimes(z, a api.Nat, m uint64) uint64 {
	var carry uint64
	for i, v := range a {
		high, low := bits.Mul64(v, m)
		low, over := bits.Add64(low, carry, 0)
		var under uint64
		z[i], under = bits.Sub64(z[i], low, 0)
		// v m + carry and what z[i] lacks is at most 2^128 - 1, so that no
		// carry wraps.
		carry = high + over + under
	}
	return minus(z[len(a):], api.Nat{carry})
}

// product is a b, however great it is: what mul would refuse is taken by
// halves of the longer number.
func product(a, b api.Nat) api.Nat {
	a, b = trim(a), trim(b)
	if len(a) < len(b) {
		a, b = b, a
	}
	if len(a)+len(b) <= mostLimbs {
		p, _ := mul.Mul(a, b)
		return p
	}
	half := len(a) / 2
	made := make(api.Nat, len(a)+len(b))
	copy(made, product(a[:half], b))
	plus(made[half:], product(a[half:], b))
	return trim(made)
}
