package whole

import (
	"surd/api"
	"surd/nat"
)

// Crt: the number that leaves all rests.
func Crt(r, m []api.Whole) (api.Whole, api.Whole, api.Errno) {
	if len(r) != len(m) {
		return api.Whole{}, api.Whole{}, api.ErrArg
	}
	for _, by := range m {
		if Sign(by) <= 0 {
			return api.Whole{}, api.Whole{}, api.ErrArg
		}
	}
	// Also behind a multiple that is too great a rest may contradict.
	all := class{by: api.Nat{1}}
	for i, by := range m {
		more := class{rest: euclidRest(r[i], by.Abs), by: by.Abs}
		if !all.meet(more) {
			return api.Whole{}, api.Whole{}, api.ErrWholeInverse
		}
	}
	if anyBig(all.rest, all.by) {
		return api.Whole{}, api.Whole{}, api.ErrBig
	}
	return signed(false, all.rest), signed(false, all.by), api.OK
}

// class is the numbers that leave a rest by a number.
type class struct {
	rest, by api.Nat
}

// meet leaves the numbers that are in both classes, if there are any. The
// first of them is by as many times c.by further than c's as make up for what
// the rests by more.by are apart.
func (c *class) meet(more class) bool {
	g, x := common(modulo(c.by, more.by), more.by)
	times, left := both(restApart(more.rest, modulo(c.rest, more.by), more.by), g)
	if len(left) > 0 {
		return false
	}
	further, _ := both(more.by, g)
	times = modulo(product(times, x), further)
	c.rest = sum(c.rest, product(times, c.by))
	c.by = product(c.by, further)
	return true
}

// modulo is the rest of a by m, which is above 0.
func modulo(a, m api.Nat) api.Nat {
	_, rest := both(a, m)
	return rest
}

// restApart is the rest of a - b by m. Both are less than it.
func restApart(a, b, m api.Nat) api.Nat {
	if nat.Compare(a, b) < 0 {
		return less(sum(a, m), b)
	}
	return less(a, b)
}
