package ratio_test

import (
	"math"
	"slices"
	"testing"

	"surd/api"
	"surd/nat"
	"surd/ratio"
	"surd/whole"
)

// modes are all directions.
func modes() []api.Mode { return []api.Mode{api.Down, api.Up, api.Near} }

// wantWhole asks for that number, normal.
func wantWhole(t *testing.T, what string, got api.Whole, e api.Errno, want api.Whole) {
	t.Helper()
	size := nat.Norm(want.Abs)
	if e != api.OK || got.Neg != (want.Neg && len(size) > 0) || !slices.Equal(got.Abs, size) {
		t.Errorf("%s: %v of %d limbs, error %d", what, got.Abs[:min(len(got.Abs), 6)], len(got.Abs), e)
	}
}

// wantNoWhole asks for an error, and nothing beside it.
func wantNoWhole(t *testing.T, what string, got api.Whole, e, want api.Errno) {
	t.Helper()
	wantErr(t, what, e, want, api.Ratio{Num: got})
}

// The chapter's example 2.
func TestExamplesOfAt(t *testing.T) {
	for _, c := range []struct {
		p, q, n int
		mode    api.Mode
		want    int
	}{
		{1, 3, 10, api.Down, 341}, {1, 3, 10, api.Up, 342}, {1, 3, 10, api.Near, 341},
		{-1, 2, 0, api.Down, -1}, {-1, 2, 0, api.Up, 0}, {-1, 2, 0, api.Near, 0},
		{3, 2, 0, api.Near, 2}, {1, 1, -1 << 40, api.Up, 1},
	} {
		got, e := ratio.At(of(c.p, c.q), c.n, c.mode)
		wantWhole(t, "At", got, e, whole.Of(c.want))
	}
	got, e := ratio.At(of(1, 1), 1<<40, api.Down)
	wantNoWhole(t, "At(1, 2^40)", got, e, api.ErrBig)
	got, e = ratio.At(of(1, 1), 0, 3)
	wantNoWhole(t, "mode 3", got, e, api.ErrDyadicMode)
}

// rounded is p / q, rounded by ints.
func rounded(p, q int, mode api.Mode) int {
	down := p / q
	if p%q < 0 {
		down--
	}
	// Twice what is left, less q.
	side := 2*(p-down*q) - q
	switch {
	case mode == api.Up && side > -q, mode == api.Near && (side > 0 || side == 0 && down%2 != 0):
		return down + 1
	}
	return down
}

// P7.2: small rationals in all modes, by ints.
func TestAtOfInts(t *testing.T) {
	for p := -25; p <= 25; p++ {
		for q := 1; q <= 16; q++ {
			for n := -7; n <= 7; n++ {
				for _, mode := range modes() {
					got, e := ratio.At(of(p, q), n, mode)
					wantWhole(t, "At", got, e, whole.Of(rounded(p<<max(n, 0), q<<max(-n, 0), mode)))
				}
			}
		}
	}
}

// wantAt asks for r 2^n in all modes, which is num / den, multiplied out: what
// Down leaves is from 0 on and below den, and what Up lacks is so; Near is the
// one that is less away, of two as near the even one.
func wantAt(t *testing.T, r api.Ratio, n int, num api.Whole, den api.Nat) {
	t.Helper()
	reckon := must[api.Whole](t)
	down, up := reckon(ratio.At(r, n, api.Down)), reckon(ratio.At(r, n, api.Up))
	near := reckon(ratio.At(r, n, api.Near))
	left := reckon(whole.Sub(num, reckon(whole.Mul(down, above(den)))))
	lack := reckon(whole.Sub(reckon(whole.Mul(up, above(den))), num))
	for _, rest := range []api.Whole{left, lack} {
		if whole.Sign(rest) < 0 || nat.Compare(rest.Abs, den) >= 0 {
			t.Errorf("%v times 2^%d: %v and %v", short(r), n, down, up)
		}
	}
	side := whole.Compare(left, lack)
	want := down
	if side > 0 || side == 0 && nat.Bit(down.Abs, 0) == 1 {
		want = up
	}
	wantWhole(t, "Near", near, api.OK, want)
}

// P7.2: all samples, shifted by little and much.
func TestAt(t *testing.T) {
	reckon := must[api.Whole](t)
	for _, r := range samples() {
		for _, n := range []int{-3000, -200, -128, -65, -64, -63, -2, -1, 0, 1, 2, 63, 64, 65, 128, 200, 3000} {
			num, den := r.Num, above(r.Den)
			if n < 0 {
				den = reckon(whole.Shift(den, -n))
			} else {
				num = reckon(whole.Shift(num, n))
			}
			wantAt(t, r, n, num, den.Abs)
		}
	}
}

// P7.2: halves, and what is next to them, of all lengths and signs.
func TestHalves(t *testing.T) {
	m := mix(6)
	reckon := must[api.Whole](t)
	for i := range 300 {
		den := m.full(1 + i%9)
		odd := api.Whole{Neg: i%2 == 0, Abs: m.full(1 + i%5)}
		half := reckon(whole.Mul(odd, above(den)))
		n := m.below(200) - 100
		for d := -1; d <= 1; d++ {
			num := reckon(whole.Add(half, whole.Of(d)))
			// num / (2 den), by 2^n the lesser.
			r := api.Ratio{Num: num, Den: den}
			if n > 0 {
				r.Den = reckon(whole.Shift(above(den), n)).Abs
			} else {
				r.Num = reckon(whole.Shift(num, -n))
			}
			wantAt(t, r, n-1, num, times(den, api.Nat{2}))
		}
	}
}

// P7.8: Up is Down, or 1 more; Near is one of them, and at most 1/2 away.
func TestThreeModes(t *testing.T) {
	m := mix(7)
	reckon := must[api.Whole](t)
	for i := range 300 {
		r, n := m.ratio(1+i%5), m.below(300)-150
		down, up := reckon(ratio.At(r, n, api.Down)), reckon(ratio.At(r, n, api.Up))
		near := reckon(ratio.At(r, n, api.Near))
		more := reckon(whole.Sub(up, down))
		if v, e := whole.Int(more); v < 0 || v > 1 || e != api.OK {
			t.Errorf("Down %v and Up %v", down, up)
		}
		if whole.Compare(near, down) != 0 && whole.Compare(near, up) != 0 {
			t.Errorf("Near %v is not %v or %v", near, down, up)
		}
		// Twice r 2^n is within 1 of twice Near.
		twice := reckon(whole.Shift(near, 1))
		low, high := reckon(ratio.At(r, n+1, api.Down)), reckon(ratio.At(r, n+1, api.Up))
		if whole.Compare(low, reckon(whole.Sub(twice, whole.Of(1)))) < 0 || whole.Compare(high, reckon(whole.Add(twice, whole.Of(1)))) > 0 {
			t.Errorf("Near %v of %v times 2^%d", near, short(r), n)
		}
	}
}

// P7.2, R2: n that may not be, ahead of modes that may not be, ahead of ErrBig.
func TestAtRefused(t *testing.T) {
	for _, n := range []int{1<<40 + 1, -1<<40 - 1, math.MaxInt, math.MinInt} {
		for _, mode := range []api.Mode{api.Down, api.Near, -1, 3} {
			got, e := ratio.At(of(0, 1), n, mode)
			wantNoWhole(t, "n", got, e, api.ErrArg)
		}
	}
	for _, mode := range []api.Mode{-1, 3, math.MaxInt, math.MinInt} {
		for _, n := range []int{0, 1 << 40, -1 << 40} {
			got, e := ratio.At(of(1, 1), n, mode)
			wantNoWhole(t, "mode", got, e, api.ErrDyadicMode)
		}
	}
}

// P7.2: as far as n may be.
func TestAtFarAway(t *testing.T) {
	const n = 1 << 40
	for _, mode := range modes() {
		got, e := ratio.At(of(0, 7), n, mode)
		wantWhole(t, "0", got, e, api.Whole{})
		got, e = ratio.At(over(api.Nat{1}, power(1000)), n, mode)
		wantNoWhole(t, "2^(n-1000)", got, e, api.ErrBig)
		got, e = ratio.At(minus(over(power(1000), api.Nat{3})), n, mode)
		wantNoWhole(t, "-2^(n+1000) / 3", got, e, api.ErrBig)
	}
	for _, c := range []struct {
		r              api.Ratio
		down, up, near int
	}{
		{of(1, 3), 0, 1, 0}, {of(-1, 3), -1, 0, 0}, {of(0, 3), 0, 0, 0},
		{over(power(1000), api.Nat{1}), 0, 1, 0}, {minus(over(ones(1000), api.Nat{7})), -1, 0, 0},
	} {
		for i, want := range []int{c.down, c.up, c.near} {
			got, e := ratio.At(c.r, -n, modes()[i])
			wantWhole(t, "a little", got, e, whole.Of(want))
		}
	}
}

// P7.2: quotients below 1/2, a half, and above it, where shifts begin to be
// made.
func TestAtAroundAHalf(t *testing.T) {
	for bits := 1; bits < 200; bits++ {
		for more := -3; more <= 3; more++ {
			for _, num := range []api.Nat{power(bits), ones(bits)} {
				for _, den := range []api.Nat{power(bits + more + 3), ones(bits + more + 3)} {
					for n := -3; n <= 3; n++ {
						r := over(num, den)
						wantAt(t, r, n, above(times(num, power(max(n, 0)))), times(den, power(max(-n, 0))))
					}
				}
			}
		}
	}
}

// P7.2, R6: answers at the limit, one of which is too great in one mode alone.
func TestAtAtTheLimit(t *testing.T) {
	const n = api.MaxBits
	full := ones(n)
	fine := func(what string, r api.Ratio, by int, mode api.Mode, want api.Whole) {
		t.Helper()
		got, e := ratio.At(r, by, mode)
		wantWhole(t, what, got, e, want)
	}
	big := func(what string, r api.Ratio, by int, mode api.Mode) {
		t.Helper()
		got, e := ratio.At(r, by, mode)
		wantNoWhole(t, what, got, e, api.ErrBig)
	}
	fine("2^(n-1)", of(1, 1), n-1, api.Near, above(power(n-1)))
	big("2^n", of(1, 1), n, api.Near)
	fine("full", minus(over(full, api.Nat{1})), 0, api.Up, below(full))
	quarter := over(ones(n+2), api.Nat{1})
	fine("full and 3/4", quarter, -2, api.Down, above(full))
	big("full and 3/4", quarter, -2, api.Near)
	big("full and 3/4", quarter, -2, api.Up)
	fine("-full and 3/4", minus(quarter), -2, api.Up, below(full))
	big("-full and 3/4", minus(quarter), -2, api.Down)
	// 2^(n+1) / 3 is two thirds of a number of n + 1 bits.
	thirds, _, _ := whole.Floor(above(power(n+1)), whole.Of(3))
	fine("thirds", over(power(n), api.Nat{3}), 1, api.Down, thirds)
	fine("what is beyond", over(power(3*n), power(2*n+5)), -n+8, api.Near, whole.Of(8))
	fine("a great n", over(api.Nat{5}, power(2*n)), 2*n, api.Near, whole.Of(5))
	fine("a great rest", over(append(api.Nat{1}, power(n)...), ones(n+64)), 0, api.Up, whole.Of(2))
	fine("a great rest", over(ones(n+64), append(api.Nat{1}, power(n)...)), 0, api.Up, whole.Of(1))
	fine("next to 1", over(ones(n+64), power(n+64)), 0, api.Down, whole.Of(0))
	fine("next to 1", over(ones(n+64), power(n+64)), 0, api.Near, whole.Of(1))
	big("a great quotient", over(ones(3*n), power(n)), 0, api.Down)
}
