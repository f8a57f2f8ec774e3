package roots

import (
	"math/bits"

	"surd/api"
	"surd/mul"
	"surd/nat"
)

// aboutBits is how many bits of a power are kept. Exponents are below 2^40, so
// that at least 200 of these bits are right.
const aboutBits = 256

// about is a number that is not known to its last bit: it lies from low 2^exp
// to high 2^exp. High powers can be held against a number by it at once,
// without their bits.
type about struct {
	low, high api.Nat
	exp       int
}

// side is where a number is, held against another one.
type side int

const (
	below side = iota - 1
	near
	above
)

// powerAbout is a^n, n being above 0.
func powerAbout(a api.Nat, n int) about {
	first := about{low: a, high: a}.cut()
	made := first
	for bit := bits.Len(uint(n)) - 2; bit >= 0; bit-- {
		made = made.times(made)
		if n>>bit&1 == 1 {
			made = made.times(first)
		}
	}
	return made
}

// times is the product, cut to the bits that are kept.
func (x about) times(y about) about {
	low, _ := mul.Mul(x.low, y.low)
	high, _ := mul.Mul(x.high, y.high)
	return about{low: low, high: high, exp: x.exp + y.exp}.cut()
}

// cut leaves low bits out: low is rounded down, high up.
func (x about) cut() about {
	n := nat.Length(x.high) - aboutBits
	if n <= 0 {
		return x
	}
	return about{low: down(x.low, n), high: sum(down(x.high, n), nat.From(1)), exp: x.exp + n}
}

// against is where the number is, held against a: below and above are sure.
func (x about) against(a api.Nat) side {
	length := nat.Length(a)
	switch {
	case nat.Length(x.high)+x.exp < length:
		return below
	case nat.Length(x.low)+x.exp > length:
		return above
	}
	high := down(a, x.exp)
	switch {
	case nat.Compare(x.high, high) < 0:
		return below
	case nat.Compare(x.low, high) > 0:
		return above
	}
	return near
}

// greatest is the greatest number of at most n bits that tells below, where
// all lesser ones tell so and all greater ones above; but if one of them tells
// that it is near, it is that one, and sure is false.
func greatest(n int, tell func(v uint64) side) (v uint64, sure bool) {
	for bit := n - 1; bit >= 0; bit-- {
		next := v | 1<<bit
		switch tell(next) {
		case below:
			v = next
		case near:
			return next, false
		}
	}
	return v, true
}
