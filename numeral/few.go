package numeral

import (
	"math/bits"

	"surd/api"
	"surd/nat"
)

// unit is the greatest power of the base in a limb, and how many digits 0 it
// has.
func unit(base int) (digits int, power uint64) {
	most := ^uint64(0) / uint64(base)
	for power = 1; power <= most; digits++ {
		power *= uint64(base)
	}
	return digits, power
}

// writeFew fills digits with those of a, which has no more of them.
func writeFew(digits []byte, a api.Nat, base int) {
	width, power := unit(base)
	a = nat.Norm(a)
	for to := len(digits); to > 0; to -= width {
		var low uint64
		a, low = shrink(a, power)
		for i := to - 1; i >= max(to-width, 0); i-- {
			digits[i] = byte(low % uint64(base))
			low /= uint64(base)
		}
	}
}

// shrink divides a by v where it stands, and tells the rest. A limb that has
// become 0 at the top is left out.
func shrink(a api.Nat, v uint64) (api.Nat, uint64) {
	var rest uint64
	top := len(a) - 1
	for i := top; i >= 0; i-- {
		a[i], rest = bits.Div64(rest, a[i], v)
	}
	if top >= 0 && a[top] == 0 {
		a = a[:top]
	}
	return a, rest
}

// readFew is the number of digits, the highest first.
func readFew(digits []byte, base int) api.Nat {
	width, power := unit(base)
	var made api.Nat
	for len(digits) > 0 {
		// The first piece is the short one, so that all others are full.
		n := (len(digits)-1)%width + 1
		var v uint64
		for _, d := range digits[:n] {
			v = v*uint64(base) + uint64(d)
		}
		if v = grow(made, power, v); v > 0 {
			made = append(made, v)
		}
		digits = digits[n:]
	}
	return made
}

// grow multiplies a by v and adds more where it stands, and tells the limb that
// is left over at the top.
func grow(a api.Nat, v, more uint64) uint64 {
	for i := range a {
		high, low := bits.Mul64(a[i], v)
		var carry uint64
		a[i], carry = bits.Add64(low, more, 0)
		more = high + carry
	}
	return more
}
