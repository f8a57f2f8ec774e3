package dyadic

import (
	"math/bits"

	"surd/api"
	"surd/nat"
)

// The functions of this file do what those of package nat do, but refuse
// nothing: ErrBig is asked of answers as they are normal, and numbers that are
// handed in, and those on the way, may have more bits. What they are handed has
// no noughts at the top, nor has what they answer.

const (
	// limbBits is how many bits a limb has: 2^limbLog.
	limbBits = 1 << limbLog
	limbLog  = 6
)

// trim leaves the noughts at the top out. What it answers shares a's memory.
func trim(a api.Nat) api.Nat {
	n := len(a)
	for n > 0 && a[n-1] == 0 {
		n--
	}
	return a[:n]
}

// limb reads a as if noughts without end stood at its top and at its bottom.
func limb(a api.Nat, i int) uint64 {
	if i >= 0 && i < len(a) {
		return a[i]
	}
	return 0
}

// bitsFrom is a limb's bits from the i-th one of a on; i may be below 0.
func bitsFrom(a api.Nat, i int) uint64 {
	// Shift and mask go downwards below 0 too, as a quotient would not.
	at, by := i>>limbLog, i&(limbBits-1)
	return limb(a, at)>>by | limb(a, at+1)<<(limbBits-by)
}

// shifted is a times 2^n, rounded down; n may be below 0.
func shifted(a api.Nat, n int) api.Nat {
	length := max(nat.Length(a)+n, 0)
	made := make(api.Nat, (length+limbBits-1)/limbBits)
	for i := range made {
		made[i] = bitsFrom(a, i*limbBits-n)
	}
	return made
}

// sum is a + b.
func sum(a, b api.Nat) api.Nat {
	made := make(api.Nat, max(len(a), len(b))+1)
	var carry uint64
	for i := range made {
		made[i], carry = bits.Add64(limb(a, i), limb(b, i), carry)
	}
	return trim(made)
}

// less is a - b, b not being greater.
func less(a, b api.Nat) api.Nat {
	made := make(api.Nat, len(a))
	var borrow uint64
	for i := range made {
		made[i], borrow = bits.Sub64(a[i], limb(b, i), borrow)
	}
	return trim(made)
}
