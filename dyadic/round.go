package dyadic

import (
	"surd/api"
	"surd/nat"
	"surd/whole"
)

// Round: a at a position.
func Round(a api.Dyadic, pos int, m api.Mode) (api.Dyadic, api.Errno) {
	n, e := read(a)
	switch {
	case e != api.OK:
		return api.Dyadic{}, e
	case !isPosition(pos):
		return api.Dyadic{}, api.ErrArg
	case !isMode(m):
		return api.Dyadic{}, api.ErrDyadicMode
	}
	return n.rounded(pos, m).answer()
}

// Cut: a with a length.
func Cut(a api.Dyadic, bits int, m api.Mode) (api.Dyadic, api.Errno) {
	n, e := read(a)
	switch {
	case e != api.OK:
		return api.Dyadic{}, e
	case bits < 1:
		return api.Dyadic{}, api.ErrArg
	case !isMode(m):
		return api.Dyadic{}, api.ErrDyadicMode
	case bits >= n.length():
		// So the position below, which might wrap by more bits, is not needed.
		return n.answer()
	}
	return n.rounded(n.top()-bits+1, m).answer()
}

// Whole: a as a whole number.
func Whole(a api.Dyadic, m api.Mode) (api.Whole, api.Errno) {
	n, e := read(a)
	switch {
	case e != api.OK:
		return api.Whole{}, e
	case !isMode(m):
		return api.Whole{}, api.ErrDyadicMode
	}
	n = n.rounded(0, m)
	return whole.Shift(n.man(), n.exp)
}

// isMode: is it a direction?
func isMode(m api.Mode) bool { return m >= api.Down && m <= api.Near }

// rounded is a normal number at a position; it need not be normal then.
func (n number) rounded(pos int, m api.Mode) number {
	dropped := pos - n.exp
	if n.isZero() || dropped <= 0 {
		return n
	}
	size := shifted(n.size, -dropped)
	if n.goesAway(dropped, m) {
		size = sum(size, nat.From(1))
	}
	return number{part: part{neg: n.neg, size: size}, exp: pos}
}

// goesAway tells whether a normal number whose lowest bits are dropped, one at
// least, goes to the next one away from 0. It is odd: so what is dropped is not
// 0, and it is half a step just if it is but one bit.
func (n number) goesAway(dropped int, m api.Mode) bool {
	switch m {
	case api.Down:
		return n.neg
	case api.Up:
		return !n.neg
	}
	if dropped == 1 {
		return nat.Bit(n.size, 1) == 1
	}
	return nat.Bit(n.size, dropped-1) == 1
}
