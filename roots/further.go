package roots

import (
	"math/bits"

	"surd/api"
	"surd/div"
	"surd/nat"
)

// spareBits is by how many bits a step of Newton's is shorter than it might be.
const spareBits = 4

// further is the k-th root of a, k being above 1 and below a's length, and
// what is left.
func further(a api.Nat, k int) (api.Nat, api.Nat) {
	root := firstGuess(a, k)
	for {
		full := power(root, k)
		if nat.Compare(full, a) <= 0 {
			return root, less(a, full)
		}
		root = less(root, nat.From(1))
	}
}

// firstGuess is the k-th root of a, or one more. A root of one limb is found
// bit by bit; a longer one by the root of a's highest bits and one step of
// Newton's, which about doubles its bits and never stays below the root.
func firstGuess(a api.Nat, k int) api.Nat {
	length := rootLength(a, k)
	if length <= limbBits {
		root, _ := greatest(length, func(v uint64) side { return powerAbout(nat.From(v), k).against(a) })
		return nat.From(root)
	}
	// The step is too far by its square times k through twice the root. It has
	// fewer bits than half, so that this is seldom to be seen.
	n := (length-bits.Len(uint(k)))/2 - spareBits
	high, left := further(down(a, n*k), k)
	dividend := join(left, n, bitsOf(a, n*(k-1), n))
	divisor := product(power(high, k-1), nat.From(uint64(k)))
	// The step has at most a bit more than n: nothing is refused.
	step, _ := div.Quo(dividend, divisor)
	return sum(up(high, n), step)
}
