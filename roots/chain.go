package roots

import (
	"surd/api"
	"surd/mul"
	"surd/nat"
)

// maxRadicand is the greatest number of Chain and Pell.
const maxRadicand = 65536

// Chain: the continued fraction of a root.
func Chain(n int) (int, []int, api.Errno) {
	if n < 0 || n > maxRadicand {
		return 0, nil, api.ErrArg
	}
	first, period := chain(n)
	return first, period, api.OK
}

// chain goes through the numbers (root + add) / by that are left over, of
// which each is 1 through what the one ahead of it has beyond a whole number.
// Twice the first number ends the period, and stands nowhere else in it.
func chain(n int) (int, []int) {
	first := int(secondOfLimb(uint64(n)))
	if first*first == n {
		return first, nil
	}
	var period []int
	add, by, last := 0, 1, first
	for {
		add = last*by - add
		by = (n - add*add) / by
		last = (first + add) / by
		period = append(period, last)
		if last == 2*first {
			return first, period
		}
	}
}

// Pell: the least solution of Pell's equation.
func Pell(n int) (api.Nat, api.Nat, api.Errno) {
	if n < 1 || n > maxRadicand {
		return nil, nil, api.ErrArg
	}
	first, period := chain(n)
	if len(period) == 0 {
		return nil, nil, api.ErrArg
	}
	x, y := value(first, period[:len(period)-1])
	if len(period)%2 > 0 {
		// x^2 = n y^2 - 1 as yet: (x + y root)^2 solves the equation.
		x, y = squareWith(x, y)
	}
	return x, y, api.OK
}

// value is the fraction that the chain stands for. None of its numbers has so
// many bits that anything were refused.
func value(first int, further []int) (api.Nat, api.Nat) {
	x, y := nat.From(uint64(first)), nat.From(1)
	xLast, yLast := nat.From(1), nat.From(0)
	for _, v := range further {
		x, xLast = next(x, xLast, v), x
		y, yLast = next(y, yLast, v), y
	}
	return x, y
}

// next is v a + last.
func next(a, last api.Nat, v int) api.Nat {
	made, _ := nat.Times(a, uint64(v))
	made, _ = nat.Add(made, last)
	return made
}

// squareWith is the whole number and the root's number of (x + y root)^2, with
// x^2 = n y^2 - 1: 2 x^2 + 1, and 2 x y.
func squareWith(x, y api.Nat) (api.Nat, api.Nat) {
	square, _ := mul.Square(x)
	both, _ := mul.Mul(x, y)
	return join(square, 1, nat.From(1)), up(both, 1)
}
