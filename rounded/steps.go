package rounded

import (
	"surd/api"
	"surd/nat"
)

// counted is a size in steps: the whole ones, and what is left of the next one.
type counted struct {
	whole api.Nat
	left  part
}

// part is a part of a step, held against half of it.
type part int

const (
	nothing part = iota
	less
	half
	more
)

// beside is a part that is not nothing: it is less than half a step, as much or
// more, as order is -1, 0 or 1.
func beside(order int) part { return half + part(order) }

// counting tells a size in steps of 2^pos.
type counting func(pos int) (counted, api.Errno)

// within counts a size that lies from 2^low to 2^high steps. What is far off is
// told by that alone: the work might need more room than there is.
func within(low, high int, work func() (counted, api.Errno)) (counted, api.Errno) {
	switch {
	case low >= api.MaxBits:
		return counted{}, api.ErrBig
	case high < -1:
		return counted{left: less}, api.OK
	}
	return work()
}

// away tells whether a number, by its sign and its size, goes to the next whole
// step away from 0.
type away func(neg bool, c counted) bool

// awayBy is that for a mode: nothing else looks at it.
func awayBy(mode api.Mode) away {
	return func(neg bool, c counted) bool {
		switch mode {
		case api.Down:
			return neg && c.left != nothing
		case api.Up:
			return !neg && c.left != nothing
		}
		return c.left == more || c.left == half && nat.Bit(c.whole, 0) == 1
	}
}

// answer is what a call answers: a number, rounded to a multiple of 2^pos.
func answer(neg bool, count counting, pos int, goes away) (api.Dyadic, api.Errno) {
	c, e := count(pos)
	if e == api.OK && goes(neg, c) {
		c.whole, e = nat.Add(c.whole, nat.From(1))
	}
	if e != api.OK {
		return api.Dyadic{}, e
	}
	return normal(neg, c.whole, pos)
}

// normal is a number by its sign and its size, which has at most MaxBits bits,
// times 2^exp, as a call answers it.
func normal(neg bool, size api.Nat, exp int) (api.Dyadic, api.Errno) {
	if isZero(size) {
		return api.Dyadic{}, api.OK
	}
	tail := nat.Tail(size)
	if !isPosition(exp + tail) {
		return api.Dyadic{}, api.ErrDyadicExp
	}
	odd, _ := nat.Right(size, tail)
	return api.Dyadic{Man: api.Whole{Neg: neg, Abs: odd}, Exp: exp + tail}, api.OK
}
