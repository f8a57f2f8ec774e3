package roots

import (
	"surd/api"
	"surd/div"
	"surd/nat"
)

const (
	// maxModulus is the greatest modulus of Residue and Roots.
	maxModulus = 65536
	// maxFilter is the greatest modulus that IsSquare looks at.
	maxFilter = 65
)

// Residue: does some square leave the same rest?
func Residue(a api.Nat, m int) (bool, api.Errno) {
	if m < 1 || m > maxModulus {
		return false, api.ErrArg
	}
	var flags [maxModulus]bool
	gatherSquares(flags[:m])
	return flags[restOf(a, m)], api.OK
}

// Roots: the numbers whose squares leave the same rest.
func Roots(a api.Nat, m int) ([]int, api.Errno) {
	if m < 1 || m > maxModulus {
		return nil, api.ErrArg
	}
	rest := restOf(a, m)
	var found []int
	for x := range m {
		if x*x%m == rest {
			found = append(found, x)
		}
	}
	return found, api.OK
}

// gatherSquares flags the rests that squares leave, divided by the number of
// flags, none of which is set.
func gatherSquares(flags []bool) {
	m := len(flags)
	for x := range m {
		flags[x*x%m] = true
	}
}

// restOf is what a leaves, divided by m.
func restOf(a api.Nat, m int) int {
	rest, _ := div.Rest(a, nat.From(uint64(m)))
	v, _ := nat.Small(rest)
	return int(v)
}

// leavesSquares is false only where a is no square: where a rest of a is none
// of a square's. A long number is divided but once, by the product of all.
func leavesSquares(a api.Nat) bool {
	moduli := [...]int{63, 65, 11, 17, 19, 23, 29, 31, 37, 41, 43, 47}
	all := 1
	for _, m := range moduli {
		all *= m
	}
	rest := restOf(a, all)
	for _, m := range moduli {
		var flags [maxFilter]bool
		gatherSquares(flags[:m])
		if !flags[rest%m] {
			return false
		}
	}
	return true
}
