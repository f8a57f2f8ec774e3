package numeral

import (
	"math/bits"
	"slices"

	"surd/api"
	"surd/div"
	"surd/mul"
	"surd/nat"
)

// limbBits is how many bits a limb has.
const limbBits = 64

// fewDigits is how many digits are no longer parted: about where going through
// them limb by limb is as quick.
const fewDigits = 1024

// mostLimbs is how many limbs a quotient may have that div does not refuse.
const mostLimbs = api.MaxBits / limbBits

// power is a power of the base by which numbers are parted: the base to the
// digits is odd times 2 to the bits of so many limbs. Its noughts at the
// bottom need not be multiplied nor divided by.
type power struct {
	digits int
	odd    api.Nat
	limbs  int
}

// powers are those of less than so many digits, each the square of the one
// ahead. The least is chosen so that the greatest has about half the digits; but
// none has more bits than may be, so that longer numbers are parted by the last
// one again and again.
func powers(base, digits int) []power {
	least := digits
	for least > fewDigits {
		least = (least + 1) / 2
	}
	// With this divisor there are whole limbs of noughts at the bottom.
	least = (least + limbBits - 1) / limbBits * limbBits
	twos := bits.TrailingZeros(uint(base))
	factor := base >> twos
	most := min(digits-1, api.MaxBits/bits.Len(uint(factor)))
	var made []power
	for width := least; width <= most; width *= 2 {
		var odd api.Nat
		if len(made) == 0 {
			odd, _ = mul.Pow(nat.From(uint64(factor)), width)
		} else {
			odd, _ = mul.Square(made[len(made)-1].odd)
		}
		made = append(made, power{digits: width, odd: odd, limbs: twos * width / limbBits})
	}
	return made
}

// greatest is the greatest one of powers that has less than so many digits.
func greatest(l []power, digits int) (p power, ok bool) {
	for i := len(l) - 1; i >= 0; i-- {
		if l[i].digits < digits {
			return l[i], true
		}
	}
	return power{}, false
}

// part is a through the power, rounded down, and the rest.
func (p power) part(a api.Nat) (high, low api.Nat) {
	noughts := min(p.limbs, len(a))
	high, rest := through(a[noughts:], p.odd)
	low = make(api.Nat, p.limbs+len(rest))
	copy(low, a[:noughts])
	copy(low[p.limbs:], rest)
	return high, low
}

// join is high times the power, and low.
func (p power) join(high, low api.Nat) (api.Nat, api.Errno) {
	noughts := min(p.limbs, len(low))
	upper, e := mul.Mul(high, p.odd)
	if e == api.OK {
		upper, e = nat.Add(upper, low[noughts:])
	}
	if e != api.OK {
		return nil, e
	}
	made := make(api.Nat, p.limbs+len(upper))
	copy(made, low[:noughts])
	copy(made[p.limbs:], upper)
	return made, api.OK
}

// through is a through b, rounded down, and the rest. A quotient that div would
// refuse is taken in pieces, from the top.
func through(a, b api.Nat) (quotient, rest api.Nat) {
	quotient = make(api.Nat, len(a))
	for to := len(a); to > 0; {
		from := max(to-mostLimbs, 0)
		var piece api.Nat
		piece, rest, _ = div.Both(slices.Concat(a[from:to], rest), b)
		copy(quotient[from:], piece)
		to = from
	}
	return quotient, rest
}

// written are the digits of a, the highest first.
func written(a api.Nat, base int) []byte {
	made := make([]byte, count(a, base))
	l := powers(base, len(made))
	var write func(digits []byte, a api.Nat)
	write = func(digits []byte, a api.Nat) {
		p, ok := greatest(l, len(digits))
		if !ok {
			writeFew(digits, a, base)
			return
		}
		high, low := p.part(a)
		ahead := len(digits) - p.digits
		write(digits[:ahead], high)
		write(digits[ahead:], low)
	}
	write(made, a)
	return made
}

// read is the number of digits, of which the highest is first, and not 0; or
// ErrBig, if it has more bits than may be by far, or where it is put together.
func read(digits []byte, base int) (api.Nat, api.Errno) {
	if surelyBig(len(digits), uint64(base)) {
		return nil, api.ErrBig
	}
	l := powers(base, len(digits))
	var value func(digits []byte) (api.Nat, api.Errno)
	value = func(digits []byte) (api.Nat, api.Errno) {
		p, ok := greatest(l, len(digits))
		if !ok {
			return readFew(digits, base), api.OK
		}
		// The whole has a few bits too many at most: no part of it is refused.
		ahead := len(digits) - p.digits
		high, _ := value(digits[:ahead])
		low, _ := value(digits[ahead:])
		return p.join(high, low)
	}
	return value(digits)
}
