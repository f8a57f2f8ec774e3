package whole

import (
	"surd/api"
	"surd/nat"
)

// Jacobi: Jacobi's symbol.
func Jacobi(a, n api.Whole) (int, api.Errno) {
	if Sign(n) <= 0 || nat.Bit(n.Abs, 0) == 0 {
		return 0, api.ErrArg
	}
	rest := euclidRest(a, n.Abs)
	s := symbol{x: limb(n.Abs, 0), y: limb(rest, 0), overX: true}
	switch {
	case !isOne(commonDivisor(n.Abs, rest, &s)):
		return 0, api.OK
	case s.turned:
		return -1, api.OK
	}
	return 1, api.OK
}

// symbol is Jacobi's of Euclid's two numbers, of which one is odd at any time:
// of y over x, or of x over y. It needs but the lowest bits of both, and of the
// quotients, to tell by which steps it is turned (from 1 to -1, or back).
type symbol struct {
	x, y   uint64
	overX  bool
	turned bool
}

func (s *symbol) one(q api.Nat) { s.step(q[0]) }

func (s *symbol) many(l steps) {
	for _, q := range l.quotients {
		s.step(q)
	}
}

// step is the one to y, and x less q times y. Over y, that x less a multiple of
// it changes nothing. Over x, where y is odd, the two change their places, and
// the symbol is turned if both leave 3 by 4. Where y is even, it is 2^k times
// an odd z, and the symbol of z over x is that of x over z, turned if both
// leave 3 by 4; the latter does not change. So all that may change is how the
// symbol of 2, k times, and that turn look at x; by their rules x less q times
// y is the same to them, if k is 2 or more, and else just if q is a multiple of
// 4, or odd and x less q is a multiple of 4.
func (s *symbol) step(q uint64) {
	switch {
	case !s.overX:
	case s.y%2 == 1:
		s.turn(s.x%4 == 3 && s.y%4 == 3)
		s.overX = false
	case s.y%4 == 2:
		s.turn(q%4 == 2 || q%2 == 1 && (s.x-q)%4 != 0)
	}
	s.x, s.y = s.y, s.x-q*s.y
	s.overX = !s.overX
}

// turn turns the symbol, if it is so.
func (s *symbol) turn(so bool) { s.turned = s.turned != so }
