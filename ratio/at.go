package ratio

import (
	"surd/api"
	"surd/nat"
	"surd/whole"
)

// division is one of package whole's: a quotient and a rest.
type division func(a, b api.Whole) (api.Whole, api.Whole, api.Errno)

// workings are the divisions that round as the modes do, by their numbers.
func workings() [3]division {
	return [...]division{api.Down: whole.Floor, api.Up: whole.Ceil, api.Near: whole.Near}
}

// At: the number times 2 to the n, rounded to a whole one.
func At(r api.Ratio, n int, mode api.Mode) (api.Whole, api.Errno) {
	return face(func() api.Whole {
		meant(r)
		refuse(n < -api.MaxExp || n > api.MaxExp, api.ErrArg)
		refuse(mode < api.Down || mode > api.Near, api.ErrDyadicMode)
		q, _, e := workings()[mode](quarters(r, n), whole.Of(4))
		refuse(e != api.OK, e)
		return q
	})
}

// quarters is r 2^n in quarters; what lies between two halves is moved to the
// quarter there, which is rounded as it is in all modes.
func quarters(r api.Ratio, n int) api.Whole {
	num, den := r.Num.Abs, r.Den
	if isZero(num) {
		return api.Whole{}
	}
	// r 2^n is above 2^(bits - 1) and below 2^(bits + 1). What is far off is
	// told without a shift for which there might be no room.
	bits := nat.Length(num) - nat.Length(den) + n
	refuse(bits > api.MaxBits, api.ErrBig)
	if bits < -1 {
		return signed(r.Num.Neg, nat.From(1))
	}
	if n < 0 {
		den = shifted(den, -n)
	} else {
		num = shifted(num, n)
	}
	q, rest := both(num, den)
	return signed(r.Num.Neg, sum(shifted(q, 2), quarter(rest, den)))
}

// quarter is a rest's part of den, in quarters: 2 just if it is a half.
func quarter(rest, den api.Nat) api.Nat {
	if isZero(rest) {
		return nil
	}
	return nat.From(uint64(2 + nat.Compare(rest, apart(den, rest))))
}
