package elem

import (
	"surd/api"
	"surd/dyadic"
	"surd/nat"
	"surd/rounded"
)

// places is how many places behind the point are kept. A step is 2^-places, and
// what falls between two goes to the nearer one. No number that is reckoned here
// comes near MaxBits bits, or MaxExp; so the layers below refuse nothing of what
// is asked here, but pi to more places than there are.
type places int

func (w places) rounded(a api.Dyadic) api.Dyadic {
	made, _ := dyadic.Round(a, -int(w), api.Near)
	return made
}

// outward is the steps below and above a.
func (w places) outward(a api.Dyadic) api.Span {
	lo, _ := dyadic.Round(a, -int(w), api.Down)
	hi, _ := dyadic.Round(a, -int(w), api.Up)
	return api.Span{Lo: lo, Hi: hi}
}

func (w places) product(a, b api.Dyadic) api.Dyadic { return w.rounded(times(a, b)) }

func (w places) quotient(a, b api.Dyadic) api.Dyadic {
	made, _ := rounded.Quo(a, b, -int(w), api.Near)
	return made
}

func (w places) root(a api.Dyadic) api.Dyadic {
	made, _ := rounded.Sqrt(a, -int(w), api.Near)
	return made
}

func plus(a, b api.Dyadic) api.Dyadic {
	made, _ := dyadic.Add(a, b)
	return made
}

func minus(a, b api.Dyadic) api.Dyadic {
	made, _ := dyadic.Sub(a, b)
	return made
}

func times(a, b api.Dyadic) api.Dyadic {
	made, _ := dyadic.Mul(a, b)
	return made
}

// scaled is a 2^n.
func scaled(a api.Dyadic, n int) api.Dyadic {
	made, _ := dyadic.Scale(a, n)
	return made
}

// opposite is -a.
func opposite(a api.Dyadic) api.Dyadic {
	a.Man.Neg = !a.Man.Neg
	return a
}

// size is a without its sign.
func size(a api.Dyadic) api.Dyadic {
	a.Man.Neg = false
	return a
}

// signed is a, with b's sign.
func signed(a, b api.Dyadic) api.Dyadic {
	if dyadic.Sign(b) < 0 {
		return opposite(a)
	}
	return a
}

// twoTo is 2^n.
func twoTo(n int) api.Dyadic { return api.Dyadic{Man: api.Whole{Abs: nat.From(1)}, Exp: n} }

func one() api.Dyadic { return twoTo(0) }

// point is the span of a alone.
func point(a api.Dyadic) api.Span { return api.Span{Lo: a, Hi: a} }

// less: is a below b?
func less(a, b api.Dyadic) bool {
	order, _ := dyadic.Compare(a, b)
	return order < 0
}
