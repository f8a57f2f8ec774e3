package ratio_test

import (
	"testing"

	"surd/api"
	"surd/nat"
	"surd/ratio"
	"surd/whole"
)

// wantField asks the four for what, multiplied out, they are.
func wantField(t *testing.T, a, b api.Ratio) {
	t.Helper()
	reckon := must[api.Whole](t)
	left, right := reckon(whole.Mul(a.Num, above(b.Den))), reckon(whole.Mul(b.Num, above(a.Den)))
	den := times(a.Den, b.Den)
	got, e := ratio.Add(a, b)
	wantValue(t, "Add", got, e, reckon(whole.Add(left, right)), den)
	got, e = ratio.Sub(a, b)
	wantValue(t, "Sub", got, e, reckon(whole.Sub(left, right)), den)
	got, e = ratio.Mul(a, b)
	wantValue(t, "Mul", got, e, reckon(whole.Mul(a.Num, b.Num)), den)
	got, e = ratio.Quo(a, b)
	if whole.Sign(b.Num) == 0 {
		wantErr(t, "Quo by 0", e, api.ErrRatioZero, got)
		return
	}
	wantValue(t, "Quo", got, e, api.Whole{Neg: left.Neg != right.Neg, Abs: left.Abs}, right.Abs)
}

// P7.1: all small rationals.
func TestFieldOfInts(t *testing.T) {
	for _, a := range small(6, 8) {
		for _, b := range small(6, 8) {
			wantField(t, a, b)
		}
	}
}

// P7.1: all pairs.
func TestField(t *testing.T) {
	for _, a := range samples() {
		for _, b := range samples() {
			wantField(t, a, b)
		}
	}
}

// P7.1: denominators that have much, little, or all in common, also with the
// sum's numerator.
func TestSharedDenominators(t *testing.T) {
	m := mix(3)
	for i := range 200 {
		g, p, q := m.full(1+i%7), m.full(1+i%3), m.full(1+i%4)
		a, b := over(m.full(1+i%9), times(g, p)), over(m.full(1+i%8), times(g, q))
		wantField(t, a, b)
		wantField(t, a, minus(over(a.Num.Abs, b.Den)))
		// (x + (g - x)) / (g p) is 1 / p, where g is above x.
		x := m.full(len(g))
		x[len(x)-1] >>= 1
		g[len(g)-1] |= 1 << 63
		rest := must[api.Nat](t)(nat.Sub(g, x))
		got, e := ratio.Add(over(x, times(g, p)), over(rest, times(g, p)))
		wantValue(t, "1 / p", got, e, whole.Of(1), p)
	}
}

// P7.6: a field, ordered.
func TestFieldLaws(t *testing.T) {
	m := mix(4)
	reckon := must[api.Ratio](t)
	for i := range 400 {
		limbs := 1 + i%6
		a, b, c := m.ratio(limbs), m.ratio(limbs), m.ratio(limbs)
		ab, bc := reckon(ratio.Add(a, b)), reckon(ratio.Add(b, c))
		got, e := ratio.Add(b, a)
		wantRatio(t, "b + a", got, e, ab)
		got, e = ratio.Add(ab, c)
		wantRatio(t, "(a + b) + c", got, e, reckon(ratio.Add(a, bc)))
		product := reckon(ratio.Mul(a, b))
		got, e = ratio.Mul(b, a)
		wantRatio(t, "b a", got, e, product)
		got, e = ratio.Mul(product, c)
		wantRatio(t, "(a b) c", got, e, reckon(ratio.Mul(a, reckon(ratio.Mul(b, c)))))
		got, e = ratio.Mul(a, bc)
		wantRatio(t, "a (b + c)", got, e, reckon(ratio.Add(product, reckon(ratio.Mul(a, c)))))
		got, e = ratio.Sub(ab, b)
		wantRatio(t, "(a + b) - b", got, e, a)
		if whole.Sign(b.Num) != 0 {
			got, e = ratio.Quo(product, b)
			wantRatio(t, "(a b) / b", got, e, a)
		}
		wantOrder(t, reckon(ratio.Add(a, c)), bc, must[int](t)(ratio.Compare(a, b)))
	}
}

// P7.1: by 0, in every shape, whatever is divided.
func TestQuoByZero(t *testing.T) {
	for _, zero := range []api.Ratio{of(0, 1), minus(of(0, 5)), over(api.Nat{0, 0}, api.Nat{3, 0}), minus(over(nil, power(api.MaxBits)))} {
		for _, a := range []api.Ratio{of(0, 1), of(1, 1), of(-3, 2), over(power(api.MaxBits), api.Nat{1})} {
			got, e := ratio.Quo(a, zero)
			wantErr(t, "Quo by 0", e, api.ErrRatioZero, got)
		}
	}
}

// R6: sums at the limit, and sums of what is beyond it.
func TestSumsAtTheLimit(t *testing.T) {
	const n = api.MaxBits
	one := api.Nat{1}
	full, past := over(ones(n), one), over(power(n), one)
	r, e := ratio.Add(full, of(1, 1))
	wantErr(t, "full + 1", e, api.ErrBig, r)
	r, e = ratio.Sub(past, of(1, 1))
	wantLimbs(t, "2^n - 1", r, e, above(ones(n)), one)
	r, e = ratio.Sub(minus(full), of(1, 2))
	wantErr(t, "-full - 1/2", e, api.ErrBig, r)
	r, e = ratio.Add(full, minus(full))
	wantLimbs(t, "full - full", r, e, api.Whole{}, one)
	r, e = ratio.Sub(over(power(3*n), api.Nat{3}), over(power(3*n), api.Nat{3}))
	wantLimbs(t, "what is beyond less itself", r, e, api.Whole{}, one)
	r, e = ratio.Sub(over(power(3*n), api.Nat{6}), over(power(3*n-1), api.Nat{3}))
	wantLimbs(t, "sixths less thirds", r, e, api.Whole{}, one)
	r, e = ratio.Add(over(one, power(n)), over(one, power(n)))
	wantLimbs(t, "twice 2^-n", r, e, above(one), power(n-1))
	r, e = ratio.Add(over(one, power(n)), over(one, power(n-1)))
	wantErr(t, "2^-n + 2^(1-n)", e, api.ErrBig, r)
	r, e = ratio.Sub(over(power(n+7), api.Nat{5}), over(power(n+7), api.Nat{5, 0}))
	wantLimbs(t, "fifths", r, e, api.Whole{}, one)
}

// R6: products at the limit, and of what is beyond it.
func TestProductsAtTheLimit(t *testing.T) {
	const n = api.MaxBits
	one := api.Nat{1}
	past := over(power(n+5), api.Nat{3})
	r, e := ratio.Mul(past, over(api.Nat{3}, power(n+9)))
	wantLimbs(t, "1 / 16", r, e, above(one), api.Nat{16})
	r, e = ratio.Quo(past, minus(over(power(n+5), api.Nat{6})))
	wantLimbs(t, "-2", r, e, whole.Of(-2), one)
	r, e = ratio.Mul(over(power(n/2), one), over(power(n-n/2-1), one))
	wantLimbs(t, "2^(n-1)", r, e, above(power(n-1)), one)
	r, e = ratio.Mul(over(power(n/2), one), over(power(n-n/2), one))
	wantErr(t, "2^n", e, api.ErrBig, r)
	r, e = ratio.Mul(over(one, power(n/2)), over(one, power(n-n/2)))
	wantErr(t, "2^-n", e, api.ErrBig, r)
	r, e = ratio.Quo(over(one, power(n/2)), over(power(n-n/2-1), one))
	wantLimbs(t, "2^(1-n)", r, e, above(one), power(n-1))
	// 9 (2^(n-1) - 1) is 2^(n+2), and 2^(n-1) - 9.
	nine := append(ones(n - 1)[:n/64], 4)
	nine[0] -= 8
	even := ones(n)
	even[0]--
	r, e = ratio.Mul(over(nine, api.Nat{3}), of(2, 3))
	wantLimbs(t, "2^n - 2", r, e, above(even), one)
	r, e = ratio.Quo(of(3, 2), over(nine, api.Nat{3}))
	wantLimbs(t, "1 / (2^n - 2)", r, e, above(one), even)
	r, e = ratio.Mul(of(0, 1), over(power(3*n), one))
	wantLimbs(t, "0", r, e, api.Whole{}, one)
	r, e = ratio.Quo(over(nil, one), over(one, power(3*n)))
	wantLimbs(t, "0 through a little", r, e, api.Whole{}, one)
	// Products that would take their time are refused ahead of it.
	m := mix(5)
	great := over(m.full(n/64), one)
	r, e = ratio.Mul(great, great)
	wantErr(t, "a great square", e, api.ErrBig, r)
	r, e = ratio.Quo(over(one, great.Num.Abs), minus(great))
	wantErr(t, "1 / a great square", e, api.ErrBig, r)
}
