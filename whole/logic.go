package whole

import (
	"math/bits"

	"surd/api"
	"surd/nat"
)

// And: bit by bit.
func And(a, b api.Whole) (api.Whole, api.Errno) {
	return logic(a, b, func(v, w uint64) uint64 { return v & w })
}

// Or: bit by bit.
func Or(a, b api.Whole) (api.Whole, api.Errno) {
	return logic(a, b, func(v, w uint64) uint64 { return v | w })
}

// Xor: bit by bit.
func Xor(a, b api.Whole) (api.Whole, api.Errno) {
	return logic(a, b, func(v, w uint64) uint64 { return v ^ w })
}

// Not: bit by bit.
func Not(a api.Whole) (api.Whole, api.Errno) {
	if isNegative(a) {
		size, e := nat.Sub(a.Abs, api.Nat{1})
		return answered(false, size, e)
	}
	size, e := nat.Add(a.Abs, api.Nat{1})
	return answered(true, size, e)
}

// Bit: bit i.
func Bit(a api.Whole, i int) (int, api.Errno) {
	if i < 0 {
		return 0, api.ErrArg
	}
	bit := nat.Bit(a.Abs, i)
	if isNegative(a) && i > nat.Tail(a.Abs) {
		// Above the lowest bit 1, which stays, negation turns all bits.
		bit = 1 - bit
	}
	return bit, api.OK
}

// Tail: noughts behind the last 1.
func Tail(a api.Whole) (int, api.Errno) {
	if isZero(a.Abs) {
		return -1, api.OK
	}
	return nat.Tail(a.Abs), api.OK
}

// logic joins a's and b's bits limb by limb. One limb more than either has is
// its sign, without end; so the joined limbs' last one is the sign of the
// whole.
func logic(a, b api.Whole, join func(v, w uint64) uint64) (api.Whole, api.Errno) {
	n := max(len(a.Abs), len(b.Abs)) + 1
	made, other := complement(a, n), complement(b, n)
	for i, w := range other {
		made[i] = join(made[i], w)
	}
	neg := made[n-1] > 0
	if neg {
		negate(made)
	}
	made = trim(made)
	if anyBig(made) {
		return api.Whole{}, api.ErrBig
	}
	return signed(neg, made), api.OK
}

// complement is n limbs of a in two's complement, n being more than it has.
func complement(a api.Whole, n int) api.Nat {
	made := make(api.Nat, n)
	copy(made, a.Abs)
	if a.Neg {
		negate(made)
	}
	return made
}

// negate makes of limbs in two's complement those of the negative.
func negate(z api.Nat) {
	var borrow uint64
	for i, v := range z {
		z[i], borrow = bits.Sub64(0, v, borrow)
	}
}
