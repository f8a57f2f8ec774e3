package whole_test

import (
	"cmp"
	"math"
	"testing"

	"surd/api"
	"surd/whole"
)

// ints are ints at their ends, and small ones.
func ints() []int {
	out := []int{math.MinInt, math.MinInt + 1, -1 << 62, -1 << 32, 1<<32 - 1, 1 << 32, 1 << 62, math.MaxInt - 1, math.MaxInt}
	for n := -20; n <= 20; n++ {
		out = append(out, n)
	}
	return out
}

// P6.1: Of every int, and Int of it again, in every shape.
func TestOf(t *testing.T) {
	for _, n := range ints() {
		a := whole.Of(n)
		wantWhole(t, "Of", a, of(n))
		longer := api.Whole{Neg: a.Neg, Abs: append(append(api.Nat{}, a.Abs...), 0, 0)}
		for _, b := range []api.Whole{a, longer} {
			if v, e := whole.Int(b); v != n || e != api.OK {
				t.Errorf("Int of %d: %d, error %d", n, v, e)
			}
		}
	}
	if v, e := whole.Int(below(api.Nat{0, 0})); v != 0 || e != api.OK {
		t.Errorf("Int of -0: %d, error %d", v, e)
	}
}

// P6.1: numbers that are no ints.
func TestIntOfNone(t *testing.T) {
	const top, half = ^uint64(0), 1 << 63
	for _, a := range []api.Whole{
		above(api.Nat{half}), above(api.Nat{half, 0}), above(api.Nat{half + 1}), above(api.Nat{top}), above(api.Nat{0, 1}),
		below(api.Nat{half + 1}), below(api.Nat{top, 0}), below(api.Nat{0, 1}), below(api.Nat{half, 1}), below(api.Nat{1, 0, 1}),
		above(power(api.MaxBits)), below(power(api.MaxBits)),
	} {
		if v, e := whole.Int(a); v != 0 || e != api.ErrWholeInt {
			t.Errorf("Int of %v: %d, error %d", short(a), v, e)
		}
	}
}

// P6.1: Make is a number in its normal shape, 0 without a sign.
func TestMake(t *testing.T) {
	for _, size := range sizes() {
		a, e := whole.Make(false, size)
		wantOK(t, "Make", a, e, above(size))
		a, e = whole.Make(true, size)
		wantOK(t, "Make with a sign", a, e, below(size))
	}
}

// P6.2: Neg and Abs.
func TestNegAndAbs(t *testing.T) {
	for _, a := range samples() {
		got, e := whole.Neg(a)
		wantOK(t, "Neg", got, e, api.Whole{Neg: !a.Neg, Abs: a.Abs})
		got, e = whole.Abs(a)
		wantOK(t, "Abs", got, e, above(a.Abs))
	}
}

// P6.1, P6.2, R6: ErrBig from MaxBits + 1 bits on, whatever the shape.
func TestSizesAtTheLimit(t *testing.T) {
	full, over := append(ones(api.MaxBits), 0, 0), power(api.MaxBits)
	for _, neg := range []bool{false, true} {
		a, e := whole.Make(neg, full)
		wantOK(t, "Make of full", a, e, api.Whole{Neg: neg, Abs: full})
		a, e = whole.Neg(api.Whole{Neg: neg, Abs: full})
		wantOK(t, "Neg of full", a, e, api.Whole{Neg: !neg, Abs: full})
		a, e = whole.Abs(api.Whole{Neg: neg, Abs: full})
		wantOK(t, "Abs of full", a, e, above(full))
		a, e = whole.Make(neg, over)
		wantErr(t, "Make of over", e, api.ErrBig, a)
		a, e = whole.Neg(api.Whole{Neg: neg, Abs: over})
		wantErr(t, "Neg of over", e, api.ErrBig, a)
		a, e = whole.Abs(api.Whole{Neg: neg, Abs: over})
		wantErr(t, "Abs of over", e, api.ErrBig, a)
	}
}

// P6.2: Sign and Compare of ints, as Go has them.
func TestCompareInts(t *testing.T) {
	for _, a := range ints() {
		if got := whole.Sign(of(a)); got != cmp.Compare(a, 0) {
			t.Errorf("Sign(%d): %d", a, got)
		}
		for _, b := range ints() {
			if got := whole.Compare(of(a), of(b)); got != cmp.Compare(a, b) {
				t.Errorf("Compare(%d, %d): %d", a, b, got)
			}
		}
	}
}

// P6.2: Compare of all pairs, as the sign of the model's difference says, and
// Sign.
func TestCompare(t *testing.T) {
	const n = 24
	for _, a := range samples() {
		want := 1
		if isZero(a) {
			want = 0
		} else if a.Neg {
			want = -1
		}
		if got := whole.Sign(a); got != want {
			t.Errorf("Sign of %v: %d", short(a), got)
		}
		for _, b := range samples() {
			apart := modelSum(limbsOf(a, n), limbsOf(api.Whole{Neg: !b.Neg, Abs: b.Abs}, n))
			want := 0
			if apart[n-1] > 0 {
				want = -1
			} else if len(trim(apart)) > 0 {
				want = 1
			}
			if got := whole.Compare(a, b); got != want {
				t.Errorf("Compare of %v and %v: %d", short(a), short(b), got)
			}
		}
	}
}

// P6.2: Sign and Compare of numbers of any size.
func TestCompareBeyondTheLimit(t *testing.T) {
	rising := []api.Whole{
		below(power(api.MaxBits + 1)), below(ones(api.MaxBits + 1)), below(power(api.MaxBits)), below(ones(api.MaxBits)), of(-1),
		below(api.Nat{0, 0}), of(1), above(ones(api.MaxBits)), above(power(api.MaxBits)), above(ones(api.MaxBits + 1)), above(power(api.MaxBits + 1)),
	}
	for i, a := range rising {
		if got := whole.Sign(a); got != cmp.Compare(i, 5) {
			t.Errorf("Sign at %d: %d", i, got)
		}
		for j, b := range rising {
			if got := whole.Compare(a, b); got != cmp.Compare(i, j) {
				t.Errorf("Compare at %d and %d: %d", i, j, got)
			}
		}
	}
}
