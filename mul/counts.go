package mul

import (
	"surd/api"
	"surd/nat"
)

// Factorial: 1 times 2 .. times n.
func Factorial(n int) (api.Nat, api.Errno) {
	if !isIndex(n) {
		return nil, api.ErrArg
	}
	return byHalves(n, func(i int) api.Nat { return nat.From(uint64(i + 1)) })
}

// Binomial: ways to take k of n.
func Binomial(n, k int) (api.Nat, api.Errno) {
	if !isIndex(n) {
		return nil, api.ErrArg
	}
	if k < 0 || k > n {
		return nil, api.OK
	}
	// To take k is to leave n - k.
	k = min(k, n-k)
	ways := nat.From(1)
	for i := range k {
		// Ways to take i of n become ways to take i + 1: no rest is left.
		more, _ := nat.Times(ways, uint64(n-i))
		ways, _, _ = nat.Through(more, uint64(i+1))
	}
	return ways, api.OK
}

// Fibonacci: Fibonacci's n-th number.
func Fibonacci(n int) (api.Nat, api.Errno) {
	if !isIndex(n) {
		return nil, api.ErrArg
	}
	this, next := nat.From(0), nat.From(1)
	for range n {
		sum, _ := nat.Add(this, next)
		this, next = next, sum
	}
	return this, api.OK
}

// isIndex: may n be asked for? No number on the way to an answer is too great
// then: of 20,000 things a count has at most 256,909 bits.
func isIndex(n int) bool { return 0 <= n && n <= api.MaxIndex }
