package nat

import "surd/api"

// Left: times 2 to the n.
func Left(a api.Nat, n int) (api.Nat, api.Errno) {
	if !mayShift(n) {
		return nil, api.ErrArg
	}
	a = trim(a)
	if len(a) == 0 {
		return nil, api.OK
	}
	// Asked ahead of the work: by n of 2^40 there would be no room for it.
	if Length(a)+n > api.MaxBits {
		return nil, api.ErrBig
	}
	limbs, by := n/limbBits, n%limbBits
	shifted := make(api.Nat, limbs+len(a)+1)
	var carry uint64
	for i := range len(a) {
		shifted[limbs+i] = a[i]<<by | carry
		carry = a[i] >> (limbBits - by)
	}
	shifted[limbs+len(a)] = carry
	return trim(shifted), api.OK
}

// Right: through 2 to the n, rounded down.
func Right(a api.Nat, n int) (api.Nat, api.Errno) {
	if !mayShift(n) {
		return nil, api.ErrArg
	}
	a = trim(a)
	limbs, by := n/limbBits, n%limbBits
	if limbs >= len(a) {
		return nil, api.OK
	}
	a = a[limbs:]
	shifted := make(api.Nat, len(a))
	for i := range len(a) {
		shifted[i] = a[i]>>by | limb(a, i+1)<<(limbBits-by)
	}
	return answer(shifted)
}

// Low: the lowest bits.
func Low(a api.Nat, n int) (api.Nat, api.Errno) {
	if !mayShift(n) {
		return nil, api.ErrArg
	}
	a = trim(a)
	limbs, by := n/limbBits, n%limbBits
	if limbs >= len(a) {
		return answer(fresh(a))
	}
	low := fresh(a[:limbs+1])
	low[limbs] &= 1<<by - 1
	return answer(low)
}

// mayShift tells whether n is a shift that may be: R6's limit, and none back.
func mayShift(n int) bool { return n >= 0 && n <= api.MaxExp }
