package nat

import (
	"math/bits"

	"surd/api"
)

// Add: the sum.
func Add(a, b api.Nat) (api.Nat, api.Errno) {
	a, b = trim(a), trim(b)
	if len(a) < len(b) {
		a, b = b, a
	}
	sum := make(api.Nat, len(a)+1)
	var carry uint64
	for i := range len(a) {
		sum[i], carry = bits.Add64(a[i], limb(b, i), carry)
	}
	sum[len(a)] = carry
	return answer(sum)
}

// Sub: the difference.
func Sub(a, b api.Nat) (api.Nat, api.Errno) {
	if Compare(a, b) < 0 {
		return nil, api.ErrNatLess
	}
	a, b = trim(a), trim(b)
	rest := make(api.Nat, len(a))
	var borrow uint64
	for i := range len(a) {
		rest[i], borrow = bits.Sub64(a[i], limb(b, i), borrow)
	}
	return answer(rest)
}

// Times: times one limb.
func Times(a api.Nat, m uint64) (api.Nat, api.Errno) {
	a = trim(a)
	product := make(api.Nat, len(a)+1)
	var carry uint64
	for i := range len(a) {
		high, low := bits.Mul64(a[i], m)
		sum, over := bits.Add64(low, carry, 0)
		// A product's high limb is at most 2^64 - 2, so this does not wrap.
		product[i], carry = sum, high+over
	}
	product[len(a)] = carry
	return answer(product)
}

// Through: through one limb; and the rest.
func Through(a api.Nat, d uint64) (api.Nat, uint64, api.Errno) {
	if d == 0 {
		return nil, 0, api.ErrArg
	}
	a = trim(a)
	quotient := make(api.Nat, len(a))
	var rest uint64
	for i := range len(a) {
		// The rest stays below d, which is what Div64 asks for.
		at := len(a) - 1 - i
		quotient[at], rest = bits.Div64(rest, a[at], d)
	}
	q, e := answer(quotient)
	if e != api.OK {
		return nil, 0, e
	}
	return q, rest, api.OK
}
