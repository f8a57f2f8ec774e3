package roots

import (
	"math/bits"

	"surd/api"
	"surd/div"
	"surd/mul"
	"surd/nat"
)

// The functions of this file do what those of the layers below do, but refuse
// nothing: a number that is handed in may have more than MaxBits bits, and so
// may numbers on the way to a root of it. What they answer is normal and, but
// for trim's, new memory.

// mostLimbs is how many limbs a number has that mul does not refuse.
const mostLimbs = api.MaxBits / limbBits

// trim leaves the noughts at the top out. What it answers shares a's memory.
func trim(a api.Nat) api.Nat {
	n := len(a)
	for n > 0 && a[n-1] == 0 {
		n--
	}
	return a[:n]
}

// join is high 2^n + low, low being below 2^n.
func join(high api.Nat, n int, low api.Nat) api.Nat {
	high = trim(high)
	limbs, by := n/limbBits, n%limbBits
	made := make(api.Nat, limbs+len(high)+1)
	copy(made, low)
	for i, v := range high {
		made[limbs+i] |= v << by
		made[limbs+i+1] |= v >> (limbBits - by)
	}
	return trim(made)
}

// up is a 2^n.
func up(a api.Nat, n int) api.Nat { return join(a, n, nil) }

// down is a through 2^n, rounded down.
func down(a api.Nat, n int) api.Nat {
	a = trim(a)
	limbs, by := n/limbBits, n%limbBits
	if limbs >= len(a) {
		return nil
	}
	a = a[limbs:]
	made := make(api.Nat, len(a))
	var carry uint64
	for i := len(a) - 1; i >= 0; i-- {
		made[i] = a[i]>>by | carry
		carry = a[i] << (limbBits - by)
	}
	return trim(made)
}

// bitsOf is the n bits of a from a place on, as a number.
func bitsOf(a api.Nat, from, n int) api.Nat {
	limbs := (from+n)/limbBits + 1
	made := down(a[:min(limbs, len(a))], from)
	limbs, by := n/limbBits, n%limbBits
	if limbs >= len(made) {
		return made
	}
	made[limbs] &= 1<<by - 1
	return trim(made[:limbs+1])
}

// sum is a + b.
func sum(a, b api.Nat) api.Nat {
	a, b = trim(a), trim(b)
	if len(a) < len(b) {
		a, b = b, a
	}
	made := make(api.Nat, len(a)+1)
	copy(made, a)
	plus(made, b)
	return trim(made)
}

// plus adds a to z, which has room for the sum.
func plus(z, a api.Nat) {
	var carry uint64
	for i, v := range a {
		z[i], carry = bits.Add64(z[i], v, carry)
	}
	for i := len(a); carry > 0; i++ {
		z[i], carry = bits.Add64(z[i], carry, 0)
	}
}

// less is a - b, b not being greater.
func less(a, b api.Nat) api.Nat {
	a, b = trim(a), trim(b)
	made := make(api.Nat, len(a))
	copy(made, a)
	var borrow uint64
	for i, v := range b {
		made[i], borrow = bits.Sub64(made[i], v, borrow)
	}
	for i := len(b); borrow > 0; i++ {
		made[i], borrow = bits.Sub64(made[i], borrow, 0)
	}
	return trim(made)
}

// product is a b: what mul would refuse is taken by halves of the longer one.
func product(a, b api.Nat) api.Nat {
	a, b = trim(a), trim(b)
	if len(a) < len(b) {
		a, b = b, a
	}
	if len(a)+len(b) <= mostLimbs {
		p, _ := mul.Mul(a, b)
		return p
	}
	half := len(a) / 2
	made := make(api.Nat, len(a)+len(b)+1)
	copy(made, product(a[:half], b))
	plus(made[half:], product(a[half:], b))
	return trim(made)
}

// power is a^n.
func power(a api.Nat, n int) api.Nat {
	made, e := mul.Pow(a, n)
	if e == api.OK {
		return made
	}
	half := power(a, n/2)
	made = product(half, half)
	if n%2 > 0 {
		made = product(made, a)
	}
	return made
}

// both is a through b, which is above 0, rounded down, and the rest: what div
// would refuse is taken by halves of the quotient, and its rest by a product.
func both(a, b api.Nat) (api.Nat, api.Nat) {
	more := nat.Length(a) - nat.Length(b)
	if more >= api.MaxBits {
		half := more / 2
		high, rest := both(down(a, half), b)
		low, rest := both(join(rest, half, bitsOf(a, 0, half)), b)
		return join(high, half, low), rest
	}
	if nat.Length(b) <= api.MaxBits {
		q, rest, _ := div.Both(a, b)
		return q, rest
	}
	q, _ := div.Quo(a, b)
	return q, less(a, product(q, b))
}
