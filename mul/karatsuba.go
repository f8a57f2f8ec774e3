package mul

import (
	"surd/api"
	"surd/nat"
)

// halves lays a times b into z by Karatsuba's three products, of parts of half
// limbs: low times low, high times high, and one of the differences, from
// which the middle follows. (Differences, since sums might be a bit longer
// than the parts.) b is longer than half, and not longer than a.
func (w way) halves(z, a, b api.Nat, half int) {
	low, high := z[:2*half], z[2*half:]
	room := make(api.Nat, 4*half+1)
	across, middle := room[:2*half], room[2*half:]

	// The differences stand where low comes to stand: room is spared so.
	aBelow := apart(low[:half], a[:half], a[half:])
	bBelow := apart(low[half:], b[:half], b[half:])
	w.into(across, low[:half], low[half:])
	w.into(low, a[:half], b[:half])
	w.into(high, a[half:], b[half:])

	copy(middle, low)
	plus(middle, high)
	if aBelow != bBelow {
		plus(middle, across)
	} else {
		minus(middle, across)
	}
	plus(z[half:], middle)
}

// apart lays into z how far a and b, which is not longer, are apart, and says
// whether a is the lesser one.
func apart(z, a, b api.Nat) bool {
	below := nat.Compare(a, b) < 0
	if below {
		a, b = b, a
	}
	clear(z[copy(z, trim(a)):])
	minus(z, b)
	return below
}
