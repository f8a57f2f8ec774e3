package mul

import (
	"surd/api"
	"surd/nat"
)

// Split: low and high limbs.
func Split(a api.Nat, k int) (api.Nat, api.Nat, api.Errno) {
	if k < 0 {
		return nil, nil, api.ErrArg
	}
	low, high := split(a, k)
	x, y := make(api.Nat, len(low)), make(api.Nat, len(high))
	copy(x, low)
	copy(y, high)
	x, e := answer(x)
	if e != api.OK {
		return nil, nil, e
	}
	y, e = answer(y)
	if e != api.OK {
		return nil, nil, e
	}
	return x, y, api.OK
}

// Parts: Karatsuba's three.
func Parts(a, b api.Nat, k int) (api.Nat, api.Nat, api.Nat, api.Errno) {
	if k < 0 {
		return nil, nil, nil, api.ErrArg
	}
	aLow, aHigh := split(a, k)
	bLow, bHigh := split(b, k)
	low, e := Mul(aLow, bLow)
	if e != api.OK {
		return nil, nil, nil, e
	}
	middle, e := sumOfProducts(aLow, bHigh, aHigh, bLow)
	if e != api.OK {
		return nil, nil, nil, e
	}
	high, e := Mul(aHigh, bHigh)
	if e != api.OK {
		return nil, nil, nil, e
	}
	return low, middle, high, api.OK
}

// Low: the product modulo 2^k.
func Low(a, b api.Nat, k int) (api.Nat, api.Errno) {
	if k < 0 {
		return nil, api.ErrArg
	}
	a, b = lowLimbs(a, k), lowLimbs(b, k)
	least := leastLength(a, b)
	if least > api.MaxBits && least < k {
		// No bit of the product is cut off.
		return nil, api.ErrBig
	}
	p := quick().whole(a, b)
	return nat.Low(p, min(k, nat.Length(p)))
}

// High: the product divided by 2^k.
func High(a, b api.Nat, k int) (api.Nat, api.Errno) {
	if k < 0 {
		return nil, api.ErrArg
	}
	least := leastLength(a, b)
	if least < k {
		return nil, api.OK
	}
	if least-k > api.MaxBits {
		return nil, api.ErrBig
	}
	p := quick().whole(a, b)
	return nat.Right(p, min(k, nat.Length(p)))
}

// split is a's limbs below the place k, and the others. Both share a's memory.
func split(a api.Nat, k int) (api.Nat, api.Nat) {
	a = trim(a)
	k = min(k, len(a))
	return a[:k], a[k:]
}

// lowLimbs is the limbs of a that have bits below 2^k.
func lowLimbs(a api.Nat, k int) api.Nat {
	n := k / limbBits
	if k%limbBits > 0 {
		n++
	}
	low, _ := split(a, n)
	return low
}

// sumOfProducts is a b + c d.
func sumOfProducts(a, b, c, d api.Nat) (api.Nat, api.Errno) {
	x, e := Mul(a, b)
	if e != api.OK {
		return nil, e
	}
	y, e := Mul(c, d)
	if e != api.OK {
		return nil, e
	}
	return nat.Add(x, y)
}
