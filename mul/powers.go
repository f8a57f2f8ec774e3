package mul

import (
	"math/bits"

	"surd/api"
	"surd/nat"
)

// Pow: a to the power of n.
func Pow(a api.Nat, n int) (api.Nat, api.Errno) {
	if n < 0 {
		return nil, api.ErrArg
	}
	length := nat.Length(a)
	switch {
	case n == 0:
		return nat.From(1), api.OK
	case length <= 1:
		return nat.Norm(a), api.OK
	case length-1 > (api.MaxBits-1)/n:
		// The power is at least 2^((length - 1) n); that product might wrap.
		return nil, api.ErrBig
	}
	// A power of two in a is shifted, not multiplied. Right refuses nothing: a
	// has at most MaxBits bits by now.
	tail := nat.Tail(a)
	odd, _ := nat.Right(a, tail)
	odd, e := power(odd, n)
	if e != api.OK {
		return nil, e
	}
	return nat.Left(odd, tail*n)
}

// power goes through n's bits from the top, n being above 0: so each power on
// the way is a divisor of the answer, and none is too great unless that is.
func power(a api.Nat, n int) (api.Nat, api.Errno) {
	made, e := nat.From(1), api.OK
	for bit := bits.Len(uint(n)) - 1; bit >= 0; bit-- {
		made, e = Square(made)
		if e == api.OK && n>>bit&1 == 1 {
			made, e = Mul(made, a)
		}
		if e != api.OK {
			return nil, e
		}
	}
	return made, api.OK
}

// Product: the product of all.
func Product(l ...api.Nat) (api.Nat, api.Errno) {
	least := 1
	for _, a := range l {
		length := nat.Length(a)
		if length == 0 {
			return nil, api.OK
		}
		least += length - 1
	}
	if least > api.MaxBits {
		return nil, api.ErrBig
	}
	return byHalves(len(l), func(i int) api.Nat { return l[i] })
}

// byHalves is the product of n factors: the two halves' products have much the
// same length, which is where Mul is at its best.
func byHalves(n int, factor func(i int) api.Nat) (api.Nat, api.Errno) {
	var between func(from, to int) (api.Nat, api.Errno)
	between = func(from, to int) (api.Nat, api.Errno) {
		switch to - from {
		case 0:
			return nat.From(1), api.OK
		case 1:
			return Mul(factor(from), nat.From(1))
		}
		half := from + (to-from)/2
		low, e := between(from, half)
		if e != api.OK {
			return nil, e
		}
		high, e := between(half, to)
		if e != api.OK {
			return nil, e
		}
		return Mul(low, high)
	}
	return between(0, n)
}
