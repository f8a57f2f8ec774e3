package nat_test

import (
	"math"
	"testing"

	"surd/api"
	"surd/nat"
)

// shift is one of Left, Right and Low.
type shift func(a api.Nat, n int) (api.Nat, api.Errno)

// shiftsBy are the shifts about the limbs' ends.
func shiftsBy() []int {
	return []int{0, 1, 2, 3, 31, 62, 63, 64, 65, 66, 127, 128, 129, 191, 192, 193, 255, 256, 320, 321, 400}
}

// P1.3: Left, Right and Low.
func TestShifts(t *testing.T) {
	for _, a := range samples() {
		for _, n := range shiftsBy() {
			m := modelOf(a)
			l, e := nat.Left(a, n)
			wantOK(t, "Left", l, e, m.left(n).nat())
			r, e := nat.Right(a, n)
			wantOK(t, "Right", r, e, m.right(n).nat())
			low, e := nat.Low(a, n)
			wantOK(t, "Low", low, e, m.low(n).nat())
		}
	}
}

// P1.3, R2: a shift that may not be is ErrArg, whatever the number is, 0 and
// one of more than MaxBits bits too.
func TestShiftsThatMayNotBe(t *testing.T) {
	numbers := append(samples()[:12], power(api.MaxBits+1))
	for name, f := range map[string]shift{"Left": nat.Left, "Right": nat.Right, "Low": nat.Low} {
		for _, a := range numbers {
			for _, n := range []int{-1, -2, -64, -1 << 40, math.MinInt, 1<<40 + 1, 1 << 41, math.MaxInt} {
				got, e := f(a, n)
				wantErr(t, name, got, e, api.ErrArg)
			}
		}
	}
}

// P1.3: the farthest shifts that may be. Left of 0 is 0 by each of them.
func TestFarShifts(t *testing.T) {
	for _, n := range []int{api.MaxBits, api.MaxBits + 1, 1<<40 - 1, 1 << 40} {
		for _, zero := range []api.Nat{nil, {}, {0}, {0, 0, 0}} {
			l, e := nat.Left(zero, n)
			wantOK(t, "Left of 0", l, e, nil)
			r, e := nat.Right(zero, n)
			wantOK(t, "Right of 0", r, e, nil)
			low, e := nat.Low(zero, n)
			wantOK(t, "Low of 0", low, e, nil)
		}
		a := api.Nat{5, 7, 0}
		l, e := nat.Left(a, n)
		wantErr(t, "Left", l, e, api.ErrBig)
		r, e := nat.Right(a, n)
		wantOK(t, "Right", r, e, nil)
		low, e := nat.Low(a, n)
		wantOK(t, "Low", low, e, a)
	}
}

// P1.3, R6: answers of just MaxBits bits, and of one more.
func TestShiftsAtTheLimit(t *testing.T) {
	full, over := ones(api.MaxBits), power(api.MaxBits)

	l, e := nat.Left(api.Nat{1, 0}, api.MaxBits-1)
	wantOK(t, "Left(1, MaxBits - 1)", l, e, power(api.MaxBits-1))
	l, e = nat.Left(api.Nat{3}, api.MaxBits-1)
	wantErr(t, "Left(3, MaxBits - 1)", l, e, api.ErrBig)
	l, e = nat.Left(full, 0)
	wantOK(t, "Left(full, 0)", l, e, full)
	l, e = nat.Left(full, 1)
	wantErr(t, "Left(full, 1)", l, e, api.ErrBig)
	l, e = nat.Left(over, 0)
	wantErr(t, "Left(over, 0)", l, e, api.ErrBig)

	r, e := nat.Right(over, 1)
	wantOK(t, "Right(over, 1)", r, e, power(api.MaxBits-1))
	r, e = nat.Right(over, 0)
	wantErr(t, "Right(over, 0)", r, e, api.ErrBig)
	r, e = nat.Right(power(api.MaxBits+64), 64)
	wantErr(t, "Right of 64 more, 64", r, e, api.ErrBig)
	r, e = nat.Right(ones(api.MaxBits+64), 64)
	wantOK(t, "Right of 64 ones more, 64", r, e, full)

	great := ones(api.MaxBits + 64)
	low, e := nat.Low(great, api.MaxBits)
	wantOK(t, "Low(great, MaxBits)", low, e, full)
	low, e = nat.Low(great, api.MaxBits+1)
	wantErr(t, "Low(great, MaxBits + 1)", low, e, api.ErrBig)
	low, e = nat.Low(great, 1<<40)
	wantErr(t, "Low(great, 2^40)", low, e, api.ErrBig)
	low, e = nat.Low(over, api.MaxBits)
	wantOK(t, "Low(over, MaxBits)", low, e, nil)
}

// P1.6: Left and Right undo each other; a is Left(Right(a, n), n) and
// Low(a, n).
func TestLawsOfShifts(t *testing.T) {
	for _, a := range samples() {
		for _, n := range shiftsBy() {
			l, _ := nat.Left(a, n)
			back, e := nat.Right(l, n)
			wantOK(t, "Right(Left(a, n), n)", back, e, a)
			r, _ := nat.Right(a, n)
			high, _ := nat.Left(r, n)
			low, _ := nat.Low(a, n)
			whole, e := nat.Add(high, low)
			wantOK(t, "Left(Right(a, n), n) + Low(a, n)", whole, e, a)
			if nat.Length(low) > n {
				t.Errorf("Low(%v, %d): %v", a, n, low)
			}
		}
	}
}
