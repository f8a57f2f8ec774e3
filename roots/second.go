package roots

import (
	"math/bits"

	"surd/api"
	"surd/nat"
)

// second is the second root of a, and what is left: the root of a's higher
// half first, then by one step of Newton's, which doubles its bits, the rest
// of it. The step divides what was left by twice the root so far; so the
// numbers in it have half of a's length.
func second(a api.Nat) (api.Nat, api.Nat) {
	if v, ok := nat.Small(a); ok {
		root := secondOfLimb(v)
		return nat.From(root), nat.From(v - root*root)
	}
	// A root of at least n bits divides so that the step is at most one too
	// far.
	n := (nat.Length(a) + 1) / 4
	high, left := second(down(a, 2*n))
	step, over := both(join(left, n, bitsOf(a, n, n)), up(high, 1))
	root, left := sum(up(high, n), step), join(over, n, bitsOf(a, 0, n))
	square := product(step, step)
	for {
		if nat.Compare(left, square) >= 0 {
			return root, less(left, square)
		}
		root = less(root, nat.From(1))
		left = sum(left, join(root, 1, nat.From(1)))
	}
}

// secondOfLimb is the second root of v by Newton's steps, from above: they
// come down as long as the root is not reached.
func secondOfLimb(v uint64) uint64 {
	if v == 0 {
		return 0
	}
	x := uint64(1) << ((bits.Len64(v) + 1) / 2)
	for {
		next := (x + v/x) / 2
		if next >= x {
			return x
		}
		x = next
	}
}

// oddSecond is the second root of an odd number, if that is a square. Most
// numbers that are none show it by a rest.
func oddSecond(a api.Nat) (api.Nat, bool) {
	if a[0]%8 != 1 || !leavesSquares(a) {
		return nil, false
	}
	root, left := second(a)
	if len(left) > 0 {
		return nil, false
	}
	return root, true
}
