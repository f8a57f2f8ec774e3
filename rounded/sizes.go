package rounded

import (
	"surd/api"
	"surd/div"
	"surd/mul"
	"surd/nat"
	"surd/ratio"
	"surd/roots"
)

// The sizes of this file are what calls round, without a sign. Their numbers
// may be arguments, of any length: they are read alone.

// fraction is num / den times 2^exp; den is above 0.
type fraction struct {
	num, den api.Nat
	exp      int
}

func (f fraction) steps(pos int) (counted, api.Errno) {
	if isZero(f.num) {
		return counted{}, api.OK
	}
	up := f.exp - pos
	top := nat.Length(f.num) - nat.Length(f.den) + up
	return within(top-1, top+1, func() (counted, api.Errno) {
		switch {
		case up < 0:
			return divided(f.num, shifted(f.den, -up))
		case up > 0:
			return divided(shifted(f.num, up), f.den)
		}
		return divided(f.num, f.den)
	})
}

// divided is num / den.
func divided(num, den api.Nat) (counted, api.Errno) {
	whole, rest, e := div.Both(num, den)
	switch {
	case e != api.OK:
		return dividedByLong(num, den)
	case isZero(rest):
		return counted{whole: whole}, api.OK
	}
	return counted{whole: whole, left: beside(nat.Compare(shifted(rest, 1), den))}, api.OK
}

// dividedByLong is divided where quotient or rest has more bits than div
// answers. A rest that has is not 0, and how it is held against half of den is
// found without it: the fraction itself is held against whole and a half.
func dividedByLong(num, den api.Nat) (counted, api.Errno) {
	whole, e := div.Quo(num, den)
	if e != api.OK {
		return counted{}, e
	}
	halves := nat.Or(shifted(whole, 1), nat.From(1))
	order, _ := ratio.Compare(
		api.Ratio{Num: api.Whole{Abs: num}, Den: den},
		api.Ratio{Num: api.Whole{Abs: halves}, Den: nat.From(2)},
	)
	return counted{whole: whole, left: beside(order)}, api.OK
}

// root is the second root of square times 2^exp.
type root struct {
	square api.Nat
	exp    int
}

func (r root) steps(pos int) (counted, api.Errno) {
	if isZero(r.square) {
		return counted{}, api.OK
	}
	up := r.exp - 2*pos
	top := nat.Length(r.square) + up
	// Shifts go downwards below 0 too, as quotients would not.
	return within((top-1)>>1, (top+1)>>1, func() (counted, api.Errno) {
		whole, isSquare, order := rooted(shifted(r.square, up))
		switch {
		case isSquare && up >= -nat.Tail(r.square):
			return counted{whole: whole}, api.OK
		case order == 0:
			// What the square of whole and a half has more than that of whole is
			// whole and a quarter.
			order = beyondQuarter(r.square, -up)
		}
		return counted{whole: whole, left: beside(order)}, api.OK
	})
}

// rooted is the second root of a number whose root has no more than MaxBits
// bits, rounded down; whether nothing is left; and how what is left is held
// against the root.
func rooted(square api.Nat) (whole api.Nat, isSquare bool, order int) {
	whole, rest, e := roots.Sqrt(square)
	if e == api.OK {
		return whole, isZero(rest), nat.Compare(rest, whole)
	}
	// What is left alone can be too long: so it is more than the root. The next
	// root is refused just if it is the least number with a bit too many.
	next, e := roots.Ceil(square)
	if e != api.OK {
		next = shifted(nat.From(1), api.MaxBits)
	}
	whole, _ = nat.Sub(next, nat.From(1))
	return whole, false, 1
}

// beyondQuarter holds the lowest n bits of a against a quarter of 2^n: -1, 0
// or 1. Where n is not above 0 there are none.
func beyondQuarter(a api.Nat, n int) int {
	switch {
	case nat.Bit(a, n-1) == 1:
		return 1
	case nat.Bit(a, n-2) == 0:
		return -1
	case nat.Tail(a) < n-2:
		return 1
	}
	return 0
}

// power is odd times 2^exp, to the k; odd may be 0, where k is not below 0. The
// power of odd alone has no more than MaxBits bits.
type power struct {
	odd    api.Nat
	exp, k int
}

func (p power) steps(pos int) (counted, api.Errno) {
	if isZero(p.odd) && p.k > 0 {
		return counted{}, api.OK
	}
	top := p.exp + nat.Length(p.odd)
	low, high := (top-1)*p.k-pos, top*p.k-pos
	return within(min(low, high), max(low, high), func() (counted, api.Errno) {
		one := nat.From(1)
		made, _ := mul.Pow(p.odd, max(p.k, -p.k))
		size := fraction{num: made, den: one, exp: p.exp * p.k}
		if p.k < 0 {
			size.num, size.den = one, made
		}
		return size.steps(pos)
	})
}
