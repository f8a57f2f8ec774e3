package series

import (
	"surd/api"
	"surd/dyadic"
	"surd/nat"
	"surd/whole"
)

// grid is how many places there are behind the point: a number on it is counted
// in steps of 2^-grid. What falls between two steps goes to the one nearer to 0:
// so a series' terms come to 0, and are nowhere too great in size. No number
// comes near MaxBits bits, so the layers below refuse nothing of what is asked
// here.
type grid int

// one is 1.
func (g grid) one() api.Whole { return moved(whole.Of(1), int(g)) }

// steps is x, or less than a step below it.
func (g grid) steps(x api.Dyadic) api.Whole {
	// It is rounded ahead of all else, as it may have any length.
	x, _ = dyadic.Round(x, -int(g), api.Down)
	return moved(x.Man, x.Exp+int(g))
}

// about is the span from half of 2^-p below a value to as much above it.
func (g grid) about(value api.Whole) api.Span {
	half := moved(whole.Of(1), sparePlaces-1)
	lo, _ := dyadic.Make(minus(value, half), -int(g))
	hi, _ := dyadic.Make(plus(value, half), -int(g))
	return api.Span{Lo: lo, Hi: hi}
}

// depth is how many noughts stand between the point and a's highest bit, or
// less than 0 of what is 1 at least: a is below 2^-depth in size.
func (g grid) depth(a api.Whole) int { return int(g) - nat.Length(a.Abs) }

// product is a b.
func (g grid) product(a, b api.Whole) api.Whole {
	made, _ := whole.Mul(a, b)
	return moved(made, -int(g))
}

// quotient is a / b.
func (g grid) quotient(a, b api.Whole) api.Whole {
	made, _, _ := whole.Quo(moved(a, int(g)), b)
	return made
}

// moved is a times 2^n.
func moved(a api.Whole, n int) api.Whole {
	if n < 0 {
		a.Abs, _ = nat.Right(a.Abs, -n)
	} else {
		a.Abs, _ = nat.Left(a.Abs, n)
	}
	return a
}

// times is a m, m not being below 0.
func times(a api.Whole, m int) api.Whole {
	a.Abs, _ = nat.Times(a.Abs, uint64(m))
	return a
}

// through is a / d, d being above 0.
func through(a api.Whole, d int) api.Whole {
	a.Abs, _, _ = nat.Through(a.Abs, uint64(d))
	return a
}

// opposite is -a.
func opposite(a api.Whole) api.Whole {
	a.Neg = !a.Neg
	return a
}

func plus(a, b api.Whole) api.Whole {
	made, _ := whole.Add(a, b)
	return made
}

func minus(a, b api.Whole) api.Whole {
	made, _ := whole.Sub(a, b)
	return made
}
