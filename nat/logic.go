package nat

import "surd/api"

// And: bit by bit.
func And(a, b api.Nat) api.Nat {
	return combine(a, b, func(x, y uint64) uint64 { return x & y })
}

// Or: bit by bit.
func Or(a, b api.Nat) api.Nat {
	return combine(a, b, func(x, y uint64) uint64 { return x | y })
}

// Xor: bit by bit.
func Xor(a, b api.Nat) api.Nat {
	return combine(a, b, func(x, y uint64) uint64 { return x ^ y })
}

// combine takes two numbers limb by limb. None of its answers is too great:
// a number that is handed in may have any length, and the answer then too.
func combine(a, b api.Nat, of func(x, y uint64) uint64) api.Nat {
	a, b = trim(a), trim(b)
	made := make(api.Nat, max(len(a), len(b)))
	for i := range len(made) {
		made[i] = of(limb(a, i), limb(b, i))
	}
	return trim(made)
}
