package roots

import (
	"math/bits"

	"surd/api"
	"surd/div"
	"surd/nat"
)

const (
	// fewExponents is below which exponent a number is divided by primes ahead
	// of all else: its root would be long.
	fewExponents = 1000
	// fewPrimes is by how many primes it is divided then.
	fewPrimes = 3
)

// Perfect: a as a power.
func Perfect(a api.Nat) (api.Nat, int, api.Errno) {
	if nat.Length(a) <= 1 {
		return nat.Norm(a), 1, api.OK
	}
	base, k := asPower(a)
	base, e := answer(base)
	if e != api.OK {
		return nil, 0, e
	}
	return base, k, api.OK
}

// asPower is Perfect for a number above 1, however great it is. A number is a
// power just if its odd part and its power of two are ones of that exponent;
// exponents that are no primes are found by their factors.
func asPower(a api.Nat) (api.Nat, int) {
	twos := nat.Tail(a)
	odd := down(a, twos)
	if nat.Length(odd) == 1 {
		return nat.From(2), twos
	}
	most := nat.Length(odd)
	if twos > 0 {
		most = min(most, twos+1)
	}
	k, composite := 1, composites(most)
	for p := range most {
		if p < 2 || composite[p] {
			continue
		}
		if p >= nat.Length(odd) {
			break
		}
		for twos%p == 0 {
			root, is := oddRoot(odd, p)
			if !is {
				break
			}
			odd, twos, k = root, twos/p, k*p
		}
	}
	return up(odd, twos), k
}

// composites are flags of the numbers from 2 to n - 1 that are no primes.
func composites(n int) []bool {
	flags := make([]bool, n)
	for p := 2; p*p < n; p++ {
		if flags[p] {
			continue
		}
		for i := p * p; i < n; i += p {
			flags[i] = true
		}
	}
	return flags
}

// oddRoot is the p-th root of a, an odd number above 1, if a is the p-th power
// of a number; p is a prime. For a p above 2 the root's bits follow from a's
// lowest ones, from the bottom up, without any choice: so only one number can
// be the root, and that one is held against a's highest bits first.
func oddRoot(a api.Nat, p int) (api.Nat, bool) {
	if p == 2 {
		return oddSecond(a)
	}
	length := rootLength(a, p)
	first := limbPower(a[0], limbInverse(uint64(p)))
	if bits.Len64(first) > length || p < fewExponents && !leavesPowers(a, p) {
		return nil, false
	}
	root := lowRoot(a, p, first, (length+limbBits-1)/limbBits)
	if powerAbout(root, p).against(a) != near {
		return nil, false
	}
	return root, nat.Compare(power(root, p), a) == 0
}

// leavesPowers is false only where a is no p-th power: modulo a prime q, q - 1
// being a multiple of p, the (q - 1) / p-th power of a p-th power is 0 or 1.
func leavesPowers(a api.Nat, p int) bool {
	q := 1
	for range fewPrimes {
		for q += 2 * p; !isPrime(q); q += 2 * p {
		}
		rest, _ := div.Power(a, nat.From(uint64((q-1)/p)), nat.From(uint64(q)))
		if nat.Length(rest) > 1 {
			return false
		}
	}
	return true
}

// isPrime: is an odd number above 1 a prime?
func isPrime(n int) bool {
	for d := 3; d*d <= n; d += 2 {
		if n%d == 0 {
			return false
		}
	}
	return true
}

// Log: the greatest exponent.
func Log(a api.Nat, base int) (int, api.Errno) {
	if nat.Length(a) == 0 || base < 2 {
		return 0, api.ErrArg
	}
	b := nat.From(uint64(base))
	// The base is at least 2 to its length less 1.
	most := (nat.Length(a) - 1) / (nat.Length(b) - 1)
	found, sure := greatest(bits.Len(uint(most)), func(n uint64) side { return powerAbout(b, int(n)).against(a) })
	n := int(found)
	if !sure && nat.Compare(power(b, n), a) > 0 {
		n--
	}
	return n, api.OK
}
