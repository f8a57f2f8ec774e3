package whole

import (
	"math/bits"

	"surd/api"
	"surd/div"
	"surd/mul"
	"surd/nat"
)

// The functions of this file do what those of the layers below do, but refuse
// nothing: a number that is handed in may have more than MaxBits bits, and so
// may numbers on the way to an answer that has fewer. What they answer is
// normal and, but for trim's, new memory.

// limbBits is how many bits a limb has.
const limbBits = 64

// mostLimbs is how many limbs a number has that mul does not refuse.
const mostLimbs = api.MaxBits / limbBits

// trim leaves the noughts at the top out. What it answers shares a's memory.
func trim(a api.Nat) api.Nat {
	n := len(a)
	for n > 0 && a[n-1] == 0 {
		n--
	}
	return a[:n]
}

// limb reads a as if noughts without end stood at its top.
func limb(a api.Nat, i int) uint64 {
	if i < len(a) {
		return a[i]
	}
	return 0
}

// join is the number with high above its lowest n limbs, which are low's.
func join(high api.Nat, n int, low api.Nat) api.Nat {
	made := make(api.Nat, n+len(high))
	copy(made, low)
	copy(made[n:], high)
	return trim(made)
}

// sum is a + b.
func sum(a, b api.Nat) api.Nat {
	a, b = trim(a), trim(b)
	if len(a) < len(b) {
		a, b = b, a
	}
	made := make(api.Nat, len(a)+1)
	copy(made, a)
	plus(made, b)
	return trim(made)
}

// plus adds a to z, which has room for the sum.
func plus(z, a api.Nat) {
	var carry uint64
	for i, v := range a {
		z[i], carry = bits.Add64(z[i], v, carry)
	}
	for i := len(a); carry > 0; i++ {
		z[i], carry = bits.Add64(z[i], carry, 0)
	}
}

// less is a - b, b not being greater.
func less(a, b api.Nat) api.Nat {
	a, b = trim(a), trim(b)
	made := make(api.Nat, len(a))
	copy(made, a)
	var borrow uint64
	for i, v := range b {
		made[i], borrow = bits.Sub64(made[i], v, borrow)
	}
	for i := len(b); borrow > 0; i++ {
		made[i], borrow = bits.Sub64(made[i], borrow, 0)
	}
	return trim(made)
}

// product is a b: what mul would refuse is taken by halves of the longer one.
func product(a, b api.Nat) api.Nat {
	a, b = trim(a), trim(b)
	if len(a) < len(b) {
		a, b = b, a
	}
	if len(a)+len(b) <= mostLimbs {
		p, _ := mul.Mul(a, b)
		return p
	}
	half := len(a) / 2
	made := make(api.Nat, len(a)+len(b)+1)
	copy(made, product(a[:half], b))
	plus(made[half:], product(a[half:], b))
	return trim(made)
}

// both is a through b, which is above 0, rounded down, and the rest: what div
// would refuse is taken by halves of the quotient, and its rest by a product.
func both(a, b api.Nat) (api.Nat, api.Nat) {
	a = trim(a)
	more := nat.Length(a) - nat.Length(b)
	if more >= api.MaxBits {
		half := more / (2 * limbBits)
		high, rest := both(a[half:], b)
		low, rest := both(join(rest, half, a[:half]), b)
		return join(high, half, low), rest
	}
	if nat.Length(b) <= api.MaxBits {
		q, rest, _ := div.Both(a, b)
		return q, rest
	}
	q, _ := div.Quo(a, b)
	return q, less(a, product(q, b))
}
