package div

import (
	"math/bits"

	"surd/api"
	"surd/nat"
)

// Power: a to the e, modulo m.
func Power(a, e, m api.Nat) (api.Nat, api.Errno) {
	if isZero(m) {
		return nil, api.ErrDivZero
	}
	d := divisorOf(m)
	base := d.rest(a)
	if v, ok := nat.Small(m); ok {
		return nat.From(limbPower(limb(base, 0), e, v)), api.OK
	}
	made := api.Nat{1}
	for i := nat.Length(e) - 1; i >= 0; i-- {
		made = d.rest(product(made, made))
		if nat.Bit(e, i) == 1 {
			made = d.rest(product(made, base))
		}
	}
	return answer(made)
}

// limbPower is Power for an m of one limb, where making numbers would take
// most of the time.
func limbPower(base uint64, e api.Nat, m uint64) uint64 {
	times := func(v, w uint64) uint64 {
		high, low := bits.Mul64(v, w)
		return bits.Rem64(high, low, m)
	}
	made := 1 % m
	for i := nat.Length(e) - 1; i >= 0; i-- {
		made = times(made, made)
		if nat.Bit(e, i) == 1 {
			made = times(made, base)
		}
	}
	return made
}

// Split: a as a power of b times what b does not divide.
func Split(a, b api.Nat) (int, api.Nat, api.Errno) {
	if isZero(a) || nat.Length(b) < 2 {
		return 0, nil, api.ErrArg
	}
	k, rest := split(a, b)
	rest, e := answer(nat.Norm(rest))
	if e != api.OK {
		return 0, nil, e
	}
	return k, rest, api.OK
}

// split is Split, however great the number is, which may be a itself. Once b
// divides it, the square of b is tried: so it takes few divisions, however
// high the power is.
func split(a, b api.Nat) (int, api.Nat) {
	d := divisorOf(b)
	q, rest := d.both(a)
	if !isZero(rest) {
		return 0, a
	}
	pairs := 0
	if nat.Length(q) >= 2*nat.Length(b)-1 {
		pairs, q = split(q, product(b, b))
	}
	k := 1 + 2*pairs
	if last, rest := d.both(q); isZero(rest) {
		return k + 1, last
	}
	return k, q
}
