package div

import (
	"surd/api"
	"surd/mul"
	"surd/nat"
)

// Gcd: the greatest common divisor.
func Gcd(a, b api.Nat) api.Nat {
	switch {
	case isZero(a):
		return nat.Norm(b)
	case isZero(b):
		return nat.Norm(a)
	}
	// Powers of two are shifted out, not divided: where they are most of a
	// number, as of a dyadic's denominator, there is little left to do.
	return timesTwos(euclid(oddPart(a), oddPart(b)), min(nat.Tail(a), nat.Tail(b)))
}

// Lcm: the least common multiple.
func Lcm(a, b api.Nat) (api.Nat, api.Errno) {
	switch {
	case isZero(a) || isZero(b):
		return nil, api.OK
	case nat.Length(a) > api.MaxBits || nat.Length(b) > api.MaxBits:
		// It is not below the greater one.
		return nil, api.ErrBig
	}
	q, _ := divisorOf(Gcd(a, b)).both(a)
	return mul.Mul(q, b)
}

// oddPart is a, which is above 0, through the greatest power of two that
// divides it. It is new memory.
func oddPart(a api.Nat) api.Nat {
	a = trim(a)
	tail := nat.Tail(a)
	a = a[tail/limbBits:]
	odd := make(api.Nat, len(a))
	shiftDown(odd, a, tail%limbBits)
	return trim(odd)
}

// timesTwos is a times 2^n, however great it is. It is new memory.
func timesTwos(a api.Nat, n int) api.Nat {
	limbs := n / limbBits
	made := make(api.Nat, limbs+len(a)+1)
	made[limbs+len(a)] = shiftUp(made[limbs:], a, n%limbBits)
	return trim(made)
}

// euclid is the greatest common divisor of x and y, which are normal and above
// 0. It works in their memory.
func euclid(x, y api.Nat) api.Nat {
	if nat.Compare(x, y) < 0 {
		x, y = y, x
	}
	for len(y) > 1 {
		s := stepsOf(highBits(x, y))
		if s.none() {
			x, y = y, trim(divisorOf(y).rest(x))
			continue
		}
		s.take(x, y)
		x, y = trim(x[:len(y)]), trim(y)
	}
	if len(y) == 0 {
		return x
	}
	v, w := y[0], divisorOf(y).rest(x)[0]
	for w > 0 {
		v, w = w, v%w
	}
	return api.Nat{v}
}
