package whole

import (
	"surd/api"
	"surd/nat"
)

// The divisions, by their numbers in the table.
const (
	towardsZero = iota
	downwards
	upwards
	toNearest
	restFromZero
	divisionsCount
)

// cut is a division of sizes, rounded down, from which a division of numbers
// with signs is put right: their quotient, the rest, and what the rest lacks
// to the divisor.
type cut struct {
	quotient, rest, lack api.Nat
	// below: is the dividend below 0?
	below bool
	// apart: has it another sign than the divisor?
	apart bool
}

// division is one of the five. Its function tells of a cut that leaves a rest
// whether the quotient is to be by 1 further from 0.
type division struct {
	further func(c cut) bool
}

// divisions is the table of the five.
func divisions() [divisionsCount]division {
	return [...]division{
		towardsZero: {further: func(c cut) bool { return false }},
		downwards:   {further: func(c cut) bool { return c.apart }},
		upwards:     {further: func(c cut) bool { return !c.apart }},
		toNearest: {further: func(c cut) bool {
			side := nat.Compare(c.rest, c.lack)
			return side > 0 || side == 0 && nat.Bit(c.quotient, 0) == 1
		}},
		restFromZero: {further: func(c cut) bool { return c.below }},
	}
}

// Quo: division towards 0.
func Quo(a, b api.Whole) (api.Whole, api.Whole, api.Errno) { return divide(towardsZero, a, b) }

// Floor: division downwards.
func Floor(a, b api.Whole) (api.Whole, api.Whole, api.Errno) { return divide(downwards, a, b) }

// Ceil: division upwards.
func Ceil(a, b api.Whole) (api.Whole, api.Whole, api.Errno) { return divide(upwards, a, b) }

// Near: division to the nearest.
func Near(a, b api.Whole) (api.Whole, api.Whole, api.Errno) { return divide(toNearest, a, b) }

// Euclid: division with a rest that is not below 0.
func Euclid(a, b api.Whole) (api.Whole, api.Whole, api.Errno) { return divide(restFromZero, a, b) }

// divide is a's quotient by b, and its rest, by one of the table's divisions.
func divide(way int, a, b api.Whole) (api.Whole, api.Whole, api.Errno) {
	switch {
	case isZero(b.Abs):
		return api.Whole{}, api.Whole{}, api.ErrDivZero
	case nat.Length(a.Abs)-nat.Length(b.Abs) > api.MaxBits:
		// The quotient has at least as many bits as a has more than b.
		return api.Whole{}, api.Whole{}, api.ErrBig
	}
	q, rest := both(a.Abs, b.Abs)
	apart, below := a.Neg != b.Neg, a.Neg
	if len(rest) > 0 {
		lack := less(b.Abs, rest)
		if divisions()[way].further(cut{quotient: q, rest: rest, lack: lack, below: below, apart: apart}) {
			q, rest, below = sum(q, api.Nat{1}), lack, !below
		}
	}
	if anyBig(q, rest) {
		return api.Whole{}, api.Whole{}, api.ErrBig
	}
	return signed(apart, q), signed(below, rest), api.OK
}

// euclidRest is a's rest by m, which is above 0: from 0 on and below it.
func euclidRest(a api.Whole, m api.Nat) api.Nat {
	_, rest := both(a.Abs, m)
	if a.Neg && len(rest) > 0 {
		return less(m, rest)
	}
	return rest
}
