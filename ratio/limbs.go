package ratio

import (
	"math/bits"

	"surd/api"
	"surd/div"
	"surd/mul"
	"surd/nat"
)

// The functions of this file do what those of the layers below do, but refuse
// nothing: ErrBig is asked of answers in lowest terms, and numbers that are
// handed in, and those on the way, may have more bits. What they answer is
// normal and, but for trim's, new memory.

// limbBits is how many bits a limb has.
const limbBits = 64

// trim leaves the noughts at the top out. What it answers shares a's memory.
func trim(a api.Nat) api.Nat {
	n := len(a)
	for n > 0 && a[n-1] == 0 {
		n--
	}
	return a[:n]
}

func isZero(a api.Nat) bool { return nat.Length(a) == 0 }

func isOne(a api.Nat) bool { return nat.Length(a) == 1 }

// raise adds a to z, which has room for the sum.
func raise(z, a api.Nat) {
	var carry uint64
	for i := 0; i < len(a) || carry > 0; i++ {
		var v uint64
		if i < len(a) {
			v = a[i]
		}
		z[i], carry = bits.Add64(z[i], v, carry)
	}
}

// sum is a + b.
func sum(a, b api.Nat) api.Nat {
	made := make(api.Nat, max(len(a), len(b))+1)
	copy(made, a)
	raise(made, b)
	return trim(made)
}

// apart is how far a and b are apart.
func apart(a, b api.Nat) api.Nat {
	if nat.Compare(a, b) < 0 {
		a, b = b, a
	}
	a, b = trim(a), trim(b)
	made := make(api.Nat, len(a))
	var borrow uint64
	for i, v := range a {
		var w uint64
		if i < len(b) {
			w = b[i]
		}
		made[i], borrow = bits.Sub64(v, w, borrow)
	}
	return trim(made)
}

// product is a b: of what mul would refuse the longer one is halved.
func product(a, b api.Nat) api.Nat {
	made, e := mul.Mul(a, b)
	if e == api.OK {
		return made
	}
	a, b = trim(a), trim(b)
	if len(a) < len(b) {
		a, b = b, a
	}
	half := len(a) / 2
	made = make(api.Nat, len(a)+len(b)+1)
	copy(made, product(a[:half], b))
	raise(made[half:], product(a[half:], b))
	return trim(made)
}

// powerOf is v^n: of what mul would refuse the exponent is halved.
func powerOf(v uint64, n int) api.Nat {
	made, e := mul.Pow(nat.From(v), n)
	if e == api.OK {
		return made
	}
	return product(powerOf(v, n/2), powerOf(v, n-n/2))
}

// shifted is a 2^n.
func shifted(a api.Nat, n int) api.Nat {
	limbs, by := n/limbBits, n%limbBits
	made := make(api.Nat, limbs+len(a)+1)
	for i, v := range a {
		made[limbs+i] |= v << by
		made[limbs+i+1] = v >> (limbBits - by)
	}
	return trim(made)
}

// both is a through b, which is above 0, rounded down, and the rest: where div
// would refuse the rest it is reckoned from the quotient, and of a quotient
// that it would refuse the high and the low limbs are found one after the
// other.
func both(a, b api.Nat) (api.Nat, api.Nat) {
	q, rest, e := div.Both(a, b)
	if e == api.OK {
		return q, rest
	}
	if q, e = div.Quo(a, b); e == api.OK {
		return q, apart(a, product(q, b))
	}
	a = trim(a)
	low := (len(a) - len(trim(b))) / 2
	high, rest := both(a[low:], b)
	q, rest = both(sum(shifted(rest, low*limbBits), a[:low]), b)
	return sum(shifted(high, low*limbBits), q), rest
}

// exactly is a through b, which divides it.
func exactly(a, b api.Nat) api.Nat {
	if isOne(b) {
		return nat.Norm(a)
	}
	q, _ := both(a, b)
	return q
}

// signed is a number by its sign and its size, whose memory it takes. The size
// is normal.
func signed(neg bool, size api.Nat) api.Whole {
	return api.Whole{Neg: neg && len(size) > 0, Abs: size}
}

// plus is a + b.
func plus(a, b api.Whole) api.Whole {
	switch {
	case a.Neg == b.Neg:
		return signed(a.Neg, sum(a.Abs, b.Abs))
	case nat.Compare(a.Abs, b.Abs) < 0:
		return signed(b.Neg, apart(a.Abs, b.Abs))
	}
	return signed(a.Neg, apart(a.Abs, b.Abs))
}

// times is a b.
func times(a api.Whole, b api.Nat) api.Whole { return signed(a.Neg, product(a.Abs, b)) }
