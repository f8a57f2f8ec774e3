package rounded

import (
	"surd/api"
	"surd/nat"
)

const (
	// limbBits is how many bits a limb has: 2^limbLog.
	limbBits = 1 << limbLog
	limbLog  = 6
)

// limb reads a as if noughts without end stood at its top and at its bottom.
func limb(a api.Nat, i int) uint64 {
	if i >= 0 && i < len(a) {
		return a[i]
	}
	return 0
}

// shifted is a 2^n, rounded down; n may be below 0. It refuses nothing, as nat's
// shifts do: numbers that are handed in, and those on the way to a quotient or
// a root, may have more bits than an answer.
func shifted(a api.Nat, n int) api.Nat {
	bits := nat.Length(a)
	if bits == 0 || bits+n <= 0 {
		return nil
	}
	made := make(api.Nat, (bits+n+limbBits-1)/limbBits)
	// Shift and mask go downwards below 0 too, as a quotient would not.
	at, by := -n>>limbLog, -n&(limbBits-1)
	for i := range made {
		made[i] = limb(a, i+at)>>by | limb(a, i+at+1)<<(limbBits-by)
	}
	return made
}
