package ratio_test

import (
	"cmp"
	"math"
	"testing"

	"surd/api"
	"surd/ratio"
	"surd/whole"
)

// The chapter's example 1.
func TestExamples(t *testing.T) {
	r, e := ratio.Make(whole.Of(6), whole.Of(-4))
	wantLimbs(t, "Make(6, -4)", r, e, whole.Of(-3), api.Nat{2})
	r, e = ratio.Add(of(1, 2), of(1, 3))
	wantLimbs(t, "1/2 + 1/3", r, e, whole.Of(5), api.Nat{6})
	r, e = ratio.Quo(ratio.Int(1), ratio.Int(0))
	wantErr(t, "1 / 0", e, api.ErrRatioZero, r)
	if order, e := ratio.Compare(of(1, 3), of(2, 6)); order != 0 || e != api.OK {
		t.Errorf("Compare(1/3, 2/6): %d, error %d", order, e)
	}
}

// P7.1: the same number, normal, with its sign, the other one and none.
func TestNorm(t *testing.T) {
	for _, r := range append(samples(), small(12, 12)...) {
		got, e := ratio.Norm(r)
		wantRatio(t, "Norm", got, e, r)
		got, e = ratio.Neg(r)
		wantRatio(t, "Neg", got, e, minus(r))
		got, e = ratio.Abs(r)
		wantRatio(t, "Abs", got, e, over(r.Num.Abs, r.Den))
	}
}

// P7.1: num / den with all signs, 0 among them.
func TestMake(t *testing.T) {
	for _, r := range samples() {
		for _, neg := range []bool{false, true} {
			num, den := r.Num, api.Whole{Neg: neg, Abs: r.Den}
			got, e := ratio.Make(num, den)
			wantValue(t, "Make", got, e, api.Whole{Neg: num.Neg != neg, Abs: num.Abs}, r.Den)
		}
		for _, zero := range []api.Whole{{}, below(nil), above(api.Nat{0}), below(api.Nat{0, 0})} {
			got, e := ratio.Make(r.Num, zero)
			wantErr(t, "Make by 0", e, api.ErrRatioZero, got)
		}
	}
}

// P7.1: Int of ints at their ends, and small ones.
func TestInt(t *testing.T) {
	for _, v := range []int{math.MinInt, math.MinInt + 1, -1 << 32, -2, -1, 0, 1, 2, 1 << 62, math.MaxInt} {
		wantLimbs(t, "Int", ratio.Int(v), api.OK, whole.Of(v), api.Nat{1})
	}
}

// wantOrder asks Compare and Sign for an order, both ways round.
func wantOrder(t *testing.T, a, b api.Ratio, want int) {
	t.Helper()
	if got, e := ratio.Compare(a, b); got != want || e != api.OK {
		t.Errorf("Compare of %v and %v: %d, error %d, not %d", short(a), short(b), got, e, want)
	}
	if got, e := ratio.Compare(b, a); got != -want || e != api.OK {
		t.Errorf("Compare of %v and %v: %d, error %d, not %d", short(b), short(a), got, e, -want)
	}
}

// P7.1: Compare and Sign of small rationals, by ints.
func TestCompareOfInts(t *testing.T) {
	for p := -9; p <= 9; p++ {
		for q := 1; q <= 9; q++ {
			if sign, e := ratio.Sign(of(p, q)); sign != cmp.Compare(p, 0) || e != api.OK {
				t.Errorf("Sign of %d/%d: %d, error %d", p, q, sign, e)
			}
			for v := -9; v <= 9; v++ {
				for w := 1; w <= 9; w++ {
					wantOrder(t, of(p, q), of(v, w), cmp.Compare(p*w, v*q))
				}
			}
		}
	}
}

// P7.1: Compare of all pairs, multiplied out.
func TestCompare(t *testing.T) {
	reckon := must[api.Whole](t)
	for _, a := range samples() {
		if sign, e := ratio.Sign(a); sign != whole.Sign(a.Num) || e != api.OK {
			t.Errorf("Sign of %v: %d, error %d", short(a), sign, e)
		}
		for _, b := range samples() {
			want := whole.Compare(reckon(whole.Mul(a.Num, above(b.Den))), reckon(whole.Mul(b.Num, above(a.Den))))
			wantOrder(t, a, b, want)
		}
	}
}

// P7.1: rationals that are next to each other, of all lengths and signs.
func TestCompareOfNeighbours(t *testing.T) {
	m := mix(2)
	for limbs := 1; limbs < 30; limbs++ {
		a := over(m.full(limbs), m.full(limbs))
		by := m.full(limbs)
		b := over(times(a.Num.Abs, by), times(a.Den, by))
		wantOrder(t, a, b, 0)
		b.Num.Abs[0]++
		wantOrder(t, a, b, -1)
		wantOrder(t, minus(a), minus(b), 1)
		wantOrder(t, minus(a), b, -1)
		b.Num.Abs[0] -= 2
		wantOrder(t, a, b, 1)
	}
}

// P7.1: numbers of any size are held against each other, and have a sign.
func TestCompareBeyondTheLimit(t *testing.T) {
	const n = api.MaxBits
	rising := []api.Ratio{
		minus(over(power(n+64), api.Nat{1})), minus(over(ones(n+64), api.Nat{1})), minus(over(power(n+64), api.Nat{3})), of(-1, 1),
		minus(over(power(n), power(n+64))), minus(over(api.Nat{1}, power(2*n))), over(api.Nat{0, 0}, power(n)),
		over(api.Nat{1}, power(n+1)), over(api.Nat{1}, ones(n+1)), over(ones(n), power(n)), over(power(n), ones(n)), of(2, 1), over(power(2*n), power(n-3)),
	}
	for i, a := range rising {
		if sign, e := ratio.Sign(a); sign != cmp.Compare(i, 6) || e != api.OK {
			t.Errorf("Sign at %d: %d, error %d", i, sign, e)
		}
		for j, b := range rising[:i+1] {
			wantOrder(t, a, b, cmp.Compare(i, j))
		}
	}
	// (2^n - 1)(2^m - 1) is 2^(n+m) less 2^n less 2^m, and 1.
	const m = 640
	p := ones(n + m)
	p[n/64]--
	clear(p[:m/64])
	p[0]++
	wantOrder(t, over(p, ones(m)), over(ones(n), api.Nat{1}), 0)
	p[0]++
	wantOrder(t, over(p, ones(m)), over(ones(n), api.Nat{1}), 1)
	wantOrder(t, minus(over(ones(m), p)), minus(over(api.Nat{1}, ones(n))), 1)
}

// P7.1, R6: ErrBig is asked of the terms of what is answered, as they are in
// lowest terms: not of what is handed in.
func TestTermsAtTheLimit(t *testing.T) {
	const n = api.MaxBits
	full, much := ones(n), append(power(n+65), 0)
	for _, neg := range []bool{false, true} {
		signed := func(num, den api.Nat) api.Ratio { return api.Ratio{Num: api.Whole{Neg: neg, Abs: num}, Den: den} }
		r, e := ratio.Norm(signed(full, api.Nat{1}))
		wantLimbs(t, "full", r, e, api.Whole{Neg: neg, Abs: full}, api.Nat{1})
		r, e = ratio.Neg(signed(api.Nat{1}, full))
		wantLimbs(t, "1 / full", r, e, api.Whole{Neg: !neg, Abs: api.Nat{1}}, full)
		r, e = ratio.Abs(signed(full, power(n-1)))
		wantLimbs(t, "full / 2^(n-1)", r, e, above(full), power(n-1))
		r, e = ratio.Norm(signed(much, power(70)))
		wantLimbs(t, "2^(n+65) / 2^70", r, e, api.Whole{Neg: neg, Abs: power(n - 5)}, api.Nat{1})
		r, e = ratio.Norm(signed(power(3), much))
		wantErr(t, "2^3 / 2^(n+65)", e, api.ErrBig, r)
		r, e = ratio.Make(api.Whole{Neg: neg, Abs: power(66)}, above(much))
		wantLimbs(t, "2^66 / 2^(n+65)", r, e, api.Whole{Neg: neg, Abs: api.Nat{1}}, power(n-1))
		r, e = ratio.Make(api.Whole{Neg: neg, Abs: much}, above(much))
		wantLimbs(t, "1", r, e, api.Whole{Neg: neg, Abs: api.Nat{1}}, api.Nat{1})
		// 3 full is 2^(n+1), and 2^n - 3.
		triple := append(ones(n)[:n/64:n/64], 2)
		triple[0] -= 2
		r, e = ratio.Norm(signed(triple, api.Nat{3}))
		wantLimbs(t, "3 full / 3", r, e, api.Whole{Neg: neg, Abs: full}, api.Nat{1})
		r, e = ratio.Norm(signed(api.Nat{3}, triple))
		wantLimbs(t, "3 / (3 full)", r, e, api.Whole{Neg: neg, Abs: api.Nat{1}}, full)
		r, e = ratio.Norm(signed(nil, much))
		wantLimbs(t, "0", r, e, api.Whole{}, api.Nat{1})
		for _, call := range []func(r api.Ratio) (api.Ratio, api.Errno){ratio.Norm, ratio.Neg, ratio.Abs} {
			for _, big := range []api.Ratio{signed(power(n), api.Nat{1}), signed(api.Nat{1}, power(n)), signed(power(n), api.Nat{3}), signed(api.Nat{3}, power(n)), signed(ones(3*n), api.Nat{2})} {
				r, e = call(big)
				wantErr(t, "what is too great", e, api.ErrBig, r)
			}
		}
	}
	r, e := ratio.Make(above(power(n)), below(api.Nat{1}))
	wantErr(t, "-2^n", e, api.ErrBig, r)
	r, e = ratio.Make(above(power(n)), below(nil))
	wantErr(t, "2^n / 0", e, api.ErrRatioZero, r)
}
