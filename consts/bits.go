package consts

import (
	"surd/api"
	"surd/dyadic"
	"surd/mul"
	"surd/nat"
	"surd/whole"
)

const (
	// leastBase and mostBase are the ends of a base.
	leastBase = 2
	mostBase  = 36
	// firstMore is with how many bits more than are asked for bits are looked
	// at first. That these do not tell is rare, and costs as much as they did.
	firstMore = 16
)

// Bits: the constant times 2^p, downwards.
func Bits(c api.Const, p int) (api.Whole, api.Errno) {
	if !isConst(c) || !isPrecision(p) {
		return api.Whole{}, api.ErrArg
	}
	return numberOf(c).below(api.Dyadic{Man: whole.Of(1), Exp: p}), api.OK
}

// Digit: the i-th digit.
func Digit(c api.Const, base, i int) (int, api.Errno) {
	if !isConst(c) || base < leastBase || base > mostBase || i < 0 || i > api.MaxPlaces {
		return 0, api.ErrArg
	}
	power, _ := mul.Pow(nat.From(uint64(base)), i)
	all := numberOf(c).below(api.Dyadic{Man: api.Whole{Abs: power}})
	if i == 0 {
		return whole.Int(all)
	}
	_, last, e := nat.Through(all.Abs, uint64(base))
	return int(last), e
}

// isConst: is it one whose bits may be asked for?
func isConst(c api.Const) bool { return c >= api.ConstPi && c <= api.ConstE }

// below is the greatest whole number that is not above n times factor, n being irrational.
func (n number) below(factor api.Dyadic) api.Whole {
	top, _ := dyadic.Top(factor)
	more := firstMore
again:
	about := n.about(top + more)
	low, high := wholeOf(about.Lo, factor), wholeOf(about.Hi, factor)
	if whole.Compare(low, high) != 0 {
		more *= 2
		goto again
	}
	return low
}

// wholeOf is d times factor, rounded down.
func wholeOf(d, factor api.Dyadic) api.Whole {
	made, _ := dyadic.Mul(d, factor)
	return sure(dyadic.Whole(made, api.Down))
}
