package dyadic

import (
	"cmp"

	"surd/api"
	"surd/nat"
	"surd/whole"
)

// part is a number's sign and size. The size has no noughts at the top; its
// memory may be an argument's, so it is read alone. Of 0 the sign says nothing.
type part struct {
	neg  bool
	size api.Nat
}

func partOf(m api.Whole) part { return part{neg: m.Neg, size: trim(m.Abs)} }

func (p part) isZero() bool { return len(p.size) == 0 }

func (p part) length() int { return nat.Length(p.size) }

func (p part) man() api.Whole { return api.Whole{Neg: p.neg, Abs: p.size} }

func (p part) sign() int { return whole.Sign(p.man()) }

// total is p + q, however great it is.
func (p part) total(q part) part {
	switch {
	case p.neg == q.neg:
		return part{neg: p.neg, size: sum(p.size, q.size)}
	case nat.Compare(p.size, q.size) < 0:
		return part{neg: q.neg, size: less(q.size, p.size)}
	}
	return part{neg: p.neg, size: less(p.size, q.size)}
}

// number is its part times 2^exp. On the way to an answer it may have any
// length and any exponent.
type number struct {
	part
	exp int
}

// seen is the number that a means, as it stands there.
func seen(a api.Dyadic) (number, api.Errno) {
	if !isPosition(a.Exp) {
		return number{}, api.ErrDyadicExp
	}
	return number{part: partOf(a.Man), exp: a.Exp}, api.OK
}

// read is the number that a means, normal.
func read(a api.Dyadic) (number, api.Errno) {
	n, e := seen(a)
	return n.normal(), e
}

// normal is the same number with an odd size, or 0 with the exponent 0.
func (n number) normal() number {
	if n.isZero() {
		return number{}
	}
	if tail := nat.Tail(n.size); tail > 0 {
		n.size = shifted(n.size, -tail)
		n.exp += tail
	}
	return n
}

// answer is the number as a call answers it: normal, and in new memory.
func (n number) answer() (api.Dyadic, api.Errno) {
	n = n.normal()
	man, e := whole.Make(n.neg, n.size)
	switch {
	case e != api.OK:
		return api.Dyadic{}, e
	case !isPosition(n.exp):
		return api.Dyadic{}, api.ErrDyadicExp
	}
	return api.Dyadic{Man: man, Exp: n.exp}, api.OK
}

// top is the position of the highest bit, of a number that is not 0.
func (n number) top() int { return n.exp + n.length() - 1 }

// compare is -1, 0 or 1, of numbers as they stand there.
func compare(a, b number) int {
	sign := a.sign()
	if order := cmp.Compare(sign, b.sign()); order != 0 || sign == 0 {
		return order
	}
	return sign * compareSizes(a, b)
}

// compareSizes holds numbers that are not 0 against each other without their
// signs. Where their tops are the same they are gone through side by side from
// there on: so none has to be shifted, however far apart the exponents are.
func compareSizes(a, b number) int {
	order := cmp.Compare(a.top(), b.top())
	below, other := a.length(), b.length()
	for order == 0 && (below > 0 || other > 0) {
		below, other = below-limbBits, other-limbBits
		order = cmp.Compare(bitsFrom(a.size, below), bitsFrom(b.size, other))
	}
	return order
}

// isPosition tells whether n is an exponent, a position or a shift that may be.
func isPosition(n int) bool { return n >= -api.MaxExp && n <= api.MaxExp }
