package ratio

import (
	"surd/api"
	"surd/nat"
	"surd/whole"
)

// Chain: its continued fraction.
func Chain(r api.Ratio) ([]api.Whole, api.Errno) {
	return face(func() []api.Whole {
		meant(r)
		first, rest := floor(r)
		made := []api.Whole{first}
		p := pair{x: r.Den, y: rest}
		later, _, _ := common(p, p)
		for _, q := range later.quotients {
			made = append(made, signed(false, q))
		}
		for _, a := range made {
			refuse(nat.Length(a.Abs) > api.MaxBits, api.ErrBig)
		}
		return made
	})
}

// Unchain: the rational of a continued fraction.
func Unchain(l ...api.Whole) (api.Ratio, api.Errno) {
	return face(func() api.Ratio {
		refuse(len(l) == 0, api.ErrArg)
		if allAbove(l[1:]) {
			f := folded(l[1:])
			return fitting(api.Ratio{Num: plus(times(l[0], f.a), signed(false, f.c)), Den: f.a})
		}
		return fitting(oneByOne(l))
	})
}

// floor is the greatest whole number that is not above r, and the numerator of
// what r is more, over r's denominator.
func floor(r api.Ratio) (api.Whole, api.Nat) {
	q, rest := both(r.Num.Abs, r.Den)
	if r.Num.Neg && len(rest) > 0 {
		return signed(true, sum(q, api.Nat{1})), apart(r.Den, rest)
	}
	return signed(r.Num.Neg, q), rest
}

// allAbove: are all above 0?
func allAbove(l []api.Whole) bool {
	for _, a := range l {
		if whole.Sign(a) <= 0 {
			return false
		}
	}
	return true
}

// folded is the fold of quotients that are all above 0: by halves, where the
// numbers that are multiplied have much the same length.
func folded(l []api.Whole) fold {
	switch len(l) {
	case 0:
		return noFold()
	case 1:
		return foldOf(nat.Norm(l[0].Abs))
	}
	half := len(l) / 2
	return folded(l[:half]).then(folded(l[half:]))
}

// oneByOne is the rational of a continued fraction of two numbers or more, of
// any sign, where each number that is divided by must be looked at.
func oneByOne(l []api.Whole) api.Ratio {
	last := len(l) - 1
	num, den := l[last], whole.Of(1)
	for i := range last {
		refuse(whole.Sign(num) == 0, api.ErrRatioZero)
		a := l[last-1-i]
		more := signed(a.Neg != num.Neg, product(a.Abs, num.Abs))
		num, den = plus(more, den), num
	}
	return api.Ratio{Num: signed(num.Neg != den.Neg, num.Abs), Den: nat.Norm(den.Abs)}
}
