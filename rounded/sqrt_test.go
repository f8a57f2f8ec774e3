package rounded_test

import (
	"testing"

	"surd/api"
	"surd/dyadic"
	"surd/nat"
	"surd/rounded"
)

// sqrt is Sqrt, still to be told the direction.
func sqrt(a api.Dyadic, pos int) func(mode api.Mode) (api.Dyadic, api.Errno) {
	return func(mode api.Mode) (api.Dyadic, api.Errno) { return rounded.Sqrt(a, pos, mode) }
}

// The chapter's example 2.
func TestExamplesOfSqrt(t *testing.T) {
	wantRow(t, "of 2", row{down: of(22, -4), up: of(23, -4), near: of(23, -4)}, sqrt(of(2, 0), -4))
	wantRow(t, "of 4", exactly(of(2, 0)), sqrt(of(4, 0), 0))
	wantRow(t, "of -1", refused(api.ErrRoundRoot), sqrt(of(-1, 0), 0))
	wantRow(t, "of 0", exactly(api.Dyadic{}), sqrt(of(0, 0), 5))
}

// rootInSteps is the root of n / d as a whole number, by counting.
func rootInSteps(n, d int, mode api.Mode) int {
	down := 0
	for (down+1)*(down+1)*d <= n {
		down++
	}
	// Four times the square of down and a half, held against n.
	side := 4*n - (2*down+1)*(2*down+1)*d
	switch {
	case mode == api.Up && down*down*d < n, mode == api.Near && (side > 0 || side == 0 && down%2 != 0):
		return down + 1
	}
	return down
}

// P9.1: small numbers at positions about them, by ints.
func TestRootsOfInts(t *testing.T) {
	for n := range 150 {
		for exp := -3; exp <= 3; exp++ {
			for pos := -4; pos <= 5; pos++ {
				up := exp - 2*pos
				for _, mode := range modes() {
					got, e := rounded.Sqrt(of(n, exp), pos, mode)
					want(t, "Sqrt", got, e, of(rootInSteps(n<<max(up, 0), 1<<max(-up, 0), mode), pos))
				}
			}
		}
	}
}

// rootBitByBit is the root of a, not below 0, at a position: the greatest
// number there whose square is not above it, bit by bit, and the direction.
func rootBitByBit(t *testing.T, a api.Dyadic, pos int, mode api.Mode) api.Dyadic {
	t.Helper()
	down := api.Dyadic{}
	for bit := max((a.Exp+nat.Length(a.Man.Abs))/2+1, pos); bit >= pos; bit-- {
		if next := plus(t, down, of(1, bit)); compare(t, times(t, next, next), a) <= 0 {
			down = next
		}
	}
	middle := plus(t, down, of(1, pos-1))
	side := compare(t, a, times(t, middle, middle))
	odd := dyadic.Sign(down) != 0 && down.Exp == pos
	switch {
	case mode == api.Up && compare(t, times(t, down, down), a) < 0, mode == api.Near && (side > 0 || side == 0 && odd):
		return plus(t, down, of(1, pos))
	}
	return down
}

// rootPlaces are positions about the top of a number's root, and farther off.
func rootPlaces(a api.Dyadic) []int {
	top := (a.Exp + nat.Length(a.Man.Abs)) >> 1
	out := []int{top - 200, top - 65, top - 64, top - 63, top + 70}
	for d := -4; d <= 4; d++ {
		out = append(out, top+d)
	}
	return out
}

// P9.1: samples, by their roots bit by bit.
func TestSqrt(t *testing.T) {
	for _, a := range samples() {
		for _, pos := range rootPlaces(a) {
			for _, mode := range modes() {
				got, e := rounded.Sqrt(a, pos, mode)
				if dyadic.Sign(a) < 0 {
					wantErr(t, "Sqrt below 0", got, e, api.ErrRoundRoot)
					got, e = rounded.Sqrt(minus(a), pos, mode)
				}
				want(t, "Sqrt", got, e, rootBitByBit(t, size(a), pos, mode))
			}
		}
	}
}

// P9.1: squares of steps and of half steps, and what is next to them.
func TestRootsOfSquares(t *testing.T) {
	drawn := mix(5)
	for i := range 120 {
		root := above(drawn.nat(1+i%3), drawn.below(200)-100)
		root.Man.Abs[0] |= 1
		square := times(t, root, root)
		for _, a := range []api.Dyadic{square, plus(t, square, of(1, square.Exp-100)), plus(t, square, of(-1, square.Exp-100)), plus(t, square, of(1, square.Exp)), plus(t, square, of(-1, square.Exp))} {
			if dyadic.Sign(a) < 0 {
				continue
			}
			for d := -1; d <= 3; d++ {
				for _, mode := range modes() {
					got, e := rounded.Sqrt(a, root.Exp+d, mode)
					want(t, "Sqrt", got, e, rootBitByBit(t, a, root.Exp+d, mode))
				}
			}
		}
	}
}

// P9.1, R6: exponents and positions as far as may be.
func TestRootsFarAway(t *testing.T) {
	nought, one := api.Dyadic{}, of(1, 0)
	wantRow(t, "a little", row{down: nought, up: of(1, far), near: nought}, sqrt(of(1, -far), far))
	wantRow(t, "much, but less than a step", row{down: nought, up: of(1, far), near: nought}, sqrt(of(7, far), far))
	wantRow(t, "its place", exactly(of(1, far/2)), sqrt(of(1, far), far/2))
	wantRow(t, "its place", exactly(of(1, -far/2)), sqrt(of(1, -far), -far/2))
	wantRow(t, "beyond", exactly(of(1, far/2+1)), sqrt(of(4, far), far/2-8))
	wantRow(t, "half a step", row{down: nought, up: of(1, far/2), near: nought}, sqrt(of(1, far-2), far/2))
	wantRow(t, "more", row{down: nought, up: of(1, far/2), near: of(1, far/2)}, sqrt(of(1, far-1), far/2))
	wantRow(t, "one and a half", row{down: of(1, far/2), up: of(2, far/2), near: of(2, far/2)}, sqrt(of(9, far-2), far/2))
	wantRow(t, "much", refused(api.ErrBig), sqrt(of(1, far), -far))
	wantRow(t, "1", refused(api.ErrBig), sqrt(one, -far))
	wantRow(t, "a little", refused(api.ErrBig), sqrt(of(1, -far), -far))
	wantRow(t, "0", exactly(nought), sqrt(of(0, far), -far))
	wantRow(t, "-0", exactly(nought), sqrt(below(api.Nat{0}, -far), far))
	wantRow(t, "a little below 0", refused(api.ErrRoundRoot), sqrt(of(-1, -far), far))
}

// P9.1: numbers with more bits than an answer may have.
func TestRootsOfLongNumbers(t *testing.T) {
	const n = 3 * api.MaxBits
	wantRow(t, "in a long shape", exactly(of(3, 5)), sqrt(above(append(make(api.Nat, n/64), 9, 0), 10-n), 5))
	wantRow(t, "next above a square", row{down: of(1, n/2), up: above(powerAnd(70, 1), n/2-70), near: of(1, n/2)}, sqrt(above(powerAnd(n, 1), 0), n/2-70))
	wantRow(t, "next above a half", row{down: of(1, 1), up: of(3, 0), near: of(3, 0)}, sqrt(above(append(api.Nat{1}, append(make(api.Nat, n/64), 25)...), -n-66), 0))
	wantRow(t, "a half", row{down: of(1, 1), up: of(3, 0), near: of(1, 1)}, sqrt(above(append(make(api.Nat, n/64+1), 25), -n-66), 0))
	wantRow(t, "next below 1", row{down: of(0, 0), up: of(1, 0), near: of(1, 0)}, sqrt(above(ones(n), -n), 0))
	wantRow(t, "too long", refused(api.ErrBig), sqrt(above(ones(n), 0), 0))
}

// P9.1: as many bits as may be, and one more, whatever the normal dyadic has;
// what is left of a root may have more.
func TestRootsAtTheLimit(t *testing.T) {
	const n, limbs = api.MaxBits, api.MaxBits / 64
	wantRow(t, "n bits", exactly(of(1, 0)), sqrt(of(1, 0), 1-n))
	wantRow(t, "one more", refused(api.ErrBig), sqrt(of(1, 0), -n))
	wantRow(t, "n bits of 3", exactly(of(3, 0)), sqrt(of(9, 0), 2-n))
	wantRow(t, "one more of 3", refused(api.ErrBig), sqrt(of(9, 0), 1-n))

	// A root of n bits: the highest 64 of them are 1, the others 0. Its square
	// is 2^(2n) - 2^(2n-63) + 2^(2n-128).
	top := ^uint64(0)
	root := append(make(api.Nat, limbs-1), top)
	next := plusOne(root)
	square := func(low uint64, middle ...uint64) api.Dyadic {
		a := append(make(api.Nat, 2*limbs-2), 1, top-1)
		a[0] = low
		copy(a[limbs-1:], middle)
		return above(a, 0)
	}
	down := row{down: above(root, 0), up: above(next, 0), near: above(root, 0)}
	up := row{down: above(root, 0), up: above(next, 0), near: above(next, 0)}
	wantRow(t, "the square", exactly(above(root, 0)), sqrt(square(0), 0))
	wantRow(t, "the square and 1", down, sqrt(square(1), 0))
	wantRow(t, "the square and the root", down, sqrt(square(0, top), 0))
	wantRow(t, "the square, the root and 1", up, sqrt(square(1, top), 0))
	wantRow(t, "the square and twice the root", up, sqrt(square(0, top-1, 1), 0))
	wantRow(t, "the next square", exactly(above(next, 0)), sqrt(square(1, top-1, 1), 0))

	// Here the next root has a bit too many, and with it all that is rounded up.
	full, big := above(ones(n), 0), api.ErrBig
	tooLong := row{down: full, e: [3]api.Errno{api.OK, big, big}}
	wantRow(t, "2^(2n) - 1", tooLong, sqrt(above(ones(2*n), 0), 0))
	wantRow(t, "2^(2n) - 2^(n-1)", tooLong, sqrt(above(ones(n+1), n-1), 0))
	wantRow(t, "2^(2n) - 2^n and 1/4", tooLong, sqrt(above(append(api.Nat{1 << 62}, append(make(api.Nat, limbs), ones(n)[:limbs]...)...), -64), 0))
	wantRow(t, "2^(2n) - 2^n", row{down: full, near: full, e: [3]api.Errno{api.OK, big, api.OK}}, sqrt(above(ones(n), n), 0))
	wantRow(t, "2^(2n)", refused(big), sqrt(of(1, 2*n), 0))
}
