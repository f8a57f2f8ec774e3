package whole

import (
	"surd/api"
	"surd/mul"
	"surd/nat"
)

// Add: a + b.
func Add(a, b api.Whole) (api.Whole, api.Errno) { return total(a, b.Neg, b.Abs) }

// Sub: a - b.
func Sub(a, b api.Whole) (api.Whole, api.Errno) { return total(a, !b.Neg, b.Abs) }

// Mul: a b.
func Mul(a, b api.Whole) (api.Whole, api.Errno) {
	size, e := mul.Mul(a.Abs, b.Abs)
	return answered(a.Neg != b.Neg, size, e)
}

// Pow: a to the power of n.
func Pow(a api.Whole, n int) (api.Whole, api.Errno) {
	if n < 0 {
		return api.Whole{}, api.ErrArg
	}
	size, e := mul.Pow(a.Abs, n)
	return answered(a.Neg && n%2 > 0, size, e)
}

// Shift: a times 2^n, downwards.
func Shift(a api.Whole, n int) (api.Whole, api.Errno) {
	switch {
	case n < 0:
		return shiftDown(a, n)
	case isZero(a.Abs):
		return api.Whole{}, api.OK
	case n > api.MaxBits:
		// Not every int is a shift that nat takes.
		return api.Whole{}, api.ErrBig
	}
	size, e := nat.Left(a.Abs, n)
	return answered(a.Neg, size, e)
}

// shiftDown is a times 2^n, n being below 0: it is not negated, as the least
// int can't be, until it is known to be less than a's length.
func shiftDown(a api.Whole, n int) (api.Whole, api.Errno) {
	neg := isNegative(a)
	if n <= -nat.Length(a.Abs) {
		if neg {
			return Of(-1), api.OK
		}
		return api.Whole{}, api.OK
	}
	size, e := nat.Right(a.Abs, -n)
	if e == api.OK && neg && nat.Tail(a.Abs) < -n {
		// Bits 1 are taken off: downwards is away from 0 then.
		size, e = nat.Add(size, api.Nat{1})
	}
	return answered(neg, size, e)
}

// total is the sum of a and a number by its sign and size.
func total(a api.Whole, neg bool, size api.Nat) (api.Whole, api.Errno) {
	switch {
	case a.Neg == neg:
		size, e := nat.Add(a.Abs, size)
		return answered(neg, size, e)
	case nat.Compare(a.Abs, size) < 0:
		size, e := nat.Sub(size, a.Abs)
		return answered(neg, size, e)
	}
	size, e := nat.Sub(a.Abs, size)
	return answered(a.Neg, size, e)
}
