// Package nat is layer 1: natural numbers. See shared/doc/01-nat.md.
package nat

import (
	"cmp"
	"math/bits"

	"surd/api"
)

// limbBits is how many bits a limb has.
const limbBits = 64

// Norm: the number without noughts at the top.
func Norm(a api.Nat) api.Nat { return fresh(trim(a)) }

// From: a number of one limb.
func From(v uint64) api.Nat {
	if v == 0 {
		return nil
	}
	return api.Nat{v}
}

// Small: the number, if it has one limb or none.
func Small(a api.Nat) (uint64, bool) {
	a = trim(a)
	if len(a) > 1 {
		return 0, false
	}
	return limb(a, 0), true
}

// Compare: -1, 0, 1.
func Compare(a, b api.Nat) int {
	a, b = trim(a), trim(b)
	if len(a) != len(b) {
		return cmp.Compare(len(a), len(b))
	}
	top := len(a) - 1
	for i := range len(a) {
		if a[top-i] != b[top-i] {
			return cmp.Compare(a[top-i], b[top-i])
		}
	}
	return 0
}

// Length: how many bits it has.
func Length(a api.Nat) int {
	a = trim(a)
	if len(a) == 0 {
		return 0
	}
	top := len(a) - 1
	return top*limbBits + bits.Len64(a[top])
}

// Bit: the bit of a place.
func Bit(a api.Nat, i int) int {
	if i < 0 {
		return 0
	}
	return int(limb(a, i/limbBits) >> (i % limbBits) & 1)
}

// Tail: how many bits 0 stand at the bottom.
func Tail(a api.Nat) int {
	for i, v := range a {
		if v != 0 {
			return i*limbBits + bits.TrailingZeros64(v)
		}
	}
	return 0
}

// Count: how many bits are 1.
func Count(a api.Nat) int {
	n := 0
	for _, v := range a {
		n += bits.OnesCount64(v)
	}
	return n
}

// trim leaves the noughts at the top out. What it answers shares a's memory:
// it may be read, and be handed out only where a is an answer's own memory.
func trim(a api.Nat) api.Nat {
	n := len(a)
	for n > 0 && a[n-1] == 0 {
		n--
	}
	return a[:n]
}

// fresh copies a, so that an answer shares nothing with an argument; of an
// empty list it makes nil, which has no memory that could be shared.
func fresh(a api.Nat) api.Nat {
	return append(api.Nat(nil), a...)
}

// limb reads a as if noughts without end stood at its top, so that numbers of
// different lengths can be gone through side by side.
func limb(a api.Nat, i int) uint64 {
	if i < len(a) {
		return a[i]
	}
	return 0
}

// answer turns limbs that a call has made into what it answers: whether they
// are too many shows only once the noughts at the top are gone.
func answer(made api.Nat) (api.Nat, api.Errno) {
	made = trim(made)
	if Length(made) > api.MaxBits {
		return nil, api.ErrBig
	}
	return made, api.OK
}
