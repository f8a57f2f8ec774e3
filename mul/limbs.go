package mul

import (
	"math/bits"

	"surd/api"
)

// The functions of this file work on limbs in place: a product that made each
// of its sums anew would spend most of its time on memory.

// thirdOfOne times 3 is 1 modulo 2^64.
const thirdOfOne = 0xaaaaaaaaaaaaaaab

// school lays a times b into z, which has just the limbs of both.
func school(z, a, b api.Nat) {
	clear(z)
	for i, m := range b {
		z[i+len(a)] = addTimes(z[i:i+len(a)], a, m)
	}
}

// addTimes adds a times m to z, which has a's length, and answers the carry.
func addTimes(z, a api.Nat, m uint64) uint64 {
	var carry uint64
	for i, v := range a {
		high, low := bits.Mul64(v, m)
		sum, over := bits.Add64(low, z[i], 0)
		// v m + z[i] + carry is at most 2^128 - 1, so that no high limb wraps.
		high += over
		z[i], over = bits.Add64(sum, carry, 0)
		carry = high + over
	}
	return carry
}

// plus adds a to z, which has room for the sum.
func plus(z, a api.Nat) {
	a = trim(a)
	var carry uint64
	for i, v := range a {
		z[i], carry = bits.Add64(z[i], v, carry)
	}
	for i := len(a); carry > 0; i++ {
		z[i], carry = bits.Add64(z[i], carry, 0)
	}
}

// plusTimes adds a times m to z, which has room for the sum.
func plusTimes(z, a api.Nat, m uint64) {
	carry := addTimes(z[:len(a)], a, m)
	for i := len(a); carry > 0; i++ {
		z[i], carry = bits.Add64(z[i], carry, 0)
	}
}

// minus takes a from z, which is not the lesser one.
func minus(z, a api.Nat) {
	a = trim(a)
	var borrow uint64
	for i, v := range a {
		z[i], borrow = bits.Sub64(z[i], v, borrow)
	}
	for i := len(a); borrow > 0; i++ {
		z[i], borrow = bits.Sub64(z[i], borrow, 0)
	}
}

// minusTimes takes a times m from z, which is not less.
func minusTimes(z, a api.Nat, m uint64) {
	a = trim(a)
	var borrow uint64
	for i, v := range a {
		high, low := bits.Mul64(v, m)
		low, over := bits.Add64(low, borrow, 0)
		var under uint64
		z[i], under = bits.Sub64(z[i], low, 0)
		// v m + borrow and what z[i] lacks is at most 2^128 - 1 again.
		borrow = high + over + under
	}
	for i := len(a); borrow > 0; i++ {
		z[i], borrow = bits.Sub64(z[i], borrow, 0)
	}
}

// halfOf takes a half of z, which is even.
func halfOf(z api.Nat) {
	var carry uint64
	for i := len(z) - 1; i >= 0; i-- {
		v := z[i]
		z[i], carry = v>>1|carry, v<<(limbBits-1)
	}
}

// thirdOf takes a third of z, a multiple of 3: that is done from the bottom up,
// by products alone, since each limb of the third follows modulo 2^64.
func thirdOf(z api.Nat) {
	var borrow uint64
	for i, v := range z {
		rest, under := bits.Sub64(v, borrow, 0)
		z[i] = rest * thirdOfOne
		high, _ := bits.Mul64(z[i], 3)
		borrow = high + under
	}
}
