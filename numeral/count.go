package numeral

import (
	"math/bits"

	"surd/api"
	"surd/mul"
	"surd/nat"
)

// mostStep is an exponent with which no base's power has more bits than may be.
const mostStep = api.MaxBits / 8

// near is a number of which the highest bits are known: it is man 2^exp or a
// little more, the highest bit of man being 1. So a number's digits are counted
// without the powers of the base in all their length.
type near struct {
	man uint64
	exp int
}

// nearOf is a number of one limb that is not 0.
func nearOf(v uint64) near {
	noughts := bits.LeadingZeros64(v)
	return near{man: v << noughts, exp: -noughts}
}

// top is a with its highest bits, a having more than a limb.
func top(a api.Nat) near {
	exp := nat.Length(a) - limbBits
	limbs, by := exp/limbBits, exp%limbBits
	man := a[limbs] >> by
	if by > 0 {
		man |= a[limbs+1] << (limbBits - by)
	}
	return near{man: man, exp: exp}
}

// times is the product, less than one in the last place too small.
func (x near) times(y near) near {
	high, low := bits.Mul64(x.man, y.man)
	exp := x.exp + y.exp + limbBits
	if high>>(limbBits-1) == 0 {
		high, exp = high<<1|low>>(limbBits-1), exp-1
	}
	return near{man: high, exp: exp}
}

// nearPower is the base to the n. Of n factors it has less than n cuts, each of
// less than 2^-63 of it; so it is less than 4n in the last place too small.
func nearPower(base uint64, n int) near {
	made, factor := nearOf(1), nearOf(base)
	for bit := bits.Len(uint(n)) - 1; bit >= 0; bit-- {
		made = made.times(made)
		if n>>bit&1 == 1 {
			made = made.times(factor)
		}
	}
	return made
}

// surelyBig: have all numbers of so many digits, the highest of which is not 0,
// more bits than may be?
func surelyBig(digits int, base uint64) bool {
	least := nearPower(base, max(digits-1, 0))
	return least.exp+limbBits > api.MaxBits
}

// count is how many digits a has.
func count(a api.Nat, base int) int {
	length, twos := nat.Length(a), bits.TrailingZeros(uint(base))
	switch {
	case length <= limbBits:
		v, _ := nat.Small(a)
		return countSmall(v, uint64(base))
	case base == 1<<twos:
		return (length + twos - 1) / twos
	}
	return exponent(a, uint64(base)) + 1
}

// countSmall is how many digits v has.
func countSmall(v, base uint64) int {
	n := 1
	for v >= base {
		v /= base
		n++
	}
	return n
}

// exponent is the greatest one with which the base's power is not above a, put
// together from its bits, from the top.
func exponent(a api.Nat, base uint64) int {
	limit, made := top(a), 0
	for bit := bits.Len(uint(nat.Length(a))) - 1; bit >= 0; bit-- {
		n := made | 1<<bit
		if notAbove(nearPower(base, n), n, limit, func() bool { return reaches(a, base, n) }) {
			made = n
		}
	}
	return made
}

// notAbove: is the base to the n not above a number? Both are known by their
// highest bits. Where these do not tell, surely is asked.
func notAbove(power near, n int, limit near, surely func() bool) bool {
	if power.exp > limit.exp || power.exp == limit.exp && power.man > limit.man {
		return false
	}
	most, wraps := bits.Add64(power.man, 4*uint64(n), 0)
	if wraps == 0 && (power.exp < limit.exp || most <= limit.man) {
		return true
	}
	return surely()
}

// reaches: is a at least the base to the n? Where that power has more bits than
// may be both are first divided by a lesser one.
func reaches(a api.Nat, base uint64, n int) bool {
	for {
		power, e := mul.Pow(nat.From(base), n)
		if e == api.OK {
			return nat.Compare(a, power) >= 0
		}
		step, _ := mul.Pow(nat.From(base), mostStep)
		a, _ = through(a, step)
		n -= mostStep
	}
}
