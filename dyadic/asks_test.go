package dyadic_test

import (
	"testing"

	"surd/api"
	"surd/dyadic"
	"surd/nat"
	"surd/ratio"
)

// The chapter's examples 3 and 4, as far as they ask.
func TestExamplesOfAsking(t *testing.T) {
	n, e := dyadic.Top(of(5, -1))
	wantInt(t, "Top(5p-1)", n, e, 1)
	n, e = dyadic.Top(of(0, 5))
	wantNoInt(t, "Top(0)", n, e, api.ErrArg)
	r, e := dyadic.Ratio(of(-3, -2))
	wantRatio(t, "Ratio(-3p-2)", r, e, of(-3, 0).Man, api.Nat{4})
	a, e := dyadic.Add(of(1, api.MaxBits), of(1, 0))
	wantErr(t, "Add(1p67108864, 1p0)", a, e, api.ErrBig)
}

// wantRatio asks for these very terms.
func wantRatio(t *testing.T, what string, got api.Ratio, e api.Errno, num api.Whole, den api.Nat) {
	t.Helper()
	wantWhole(t, what+": numerator", got.Num, e, num)
	wantWhole(t, what+": denominator", api.Whole{Abs: got.Den}, e, api.Whole{Abs: den})
}

// P8.6: Top is where 2^t is at most its size, and 2^(t + 1) above it; Length is
// what is left of it without noughts at the bottom.
func TestTopLength(t *testing.T) {
	for _, a := range samples() {
		size := must[api.Dyadic](t)(dyadic.Abs(a))
		n, e := dyadic.Length(a)
		wantInt(t, "Length", n, e, nat.Length(size.Man.Abs))
		top, e := dyadic.Top(a)
		if dyadic.Sign(a) == 0 {
			wantNoInt(t, "Top of 0", top, e, api.ErrArg)
			continue
		}
		if e != api.OK || isBelow(t, size, of(1, top)) || !isBelow(t, size, of(1, top+1)) {
			t.Errorf("Top of %v: %d, error %d", short(a), top, e)
		}
	}
	for i := range 200 {
		n, e := dyadic.Length(above(power(i), -7))
		wantInt(t, "Length of 2^i", n, e, 1)
		n, e = dyadic.Length(below(append(make(api.Nat, 1), ones(i+1)...), -7))
		wantInt(t, "Length of ones", n, e, i+1)
		n, e = dyadic.Top(above(ones(i+1), -7))
		wantInt(t, "Top", n, e, i-7)
	}
}

// P8.6: the farthest exponents, and lengths beyond MaxBits.
func TestTopLengthFarAway(t *testing.T) {
	const bits = api.MaxBits + 9
	for _, c := range []struct {
		a           api.Dyadic
		top, length int
	}{
		{of(1, far), far, 1}, {of(2, far), far + 1, 1}, {of(-7, far), far + 2, 3}, {of(1, -far), -far, 1}, {of(12, -far), -far + 3, 2},
		{above(ones(bits), far), far + bits - 1, bits}, {above(powerAnd(bits, 2), -far), -far + bits, bits},
	} {
		n, e := dyadic.Top(c.a)
		wantInt(t, "Top", n, e, c.top)
		n, e = dyadic.Length(c.a)
		wantInt(t, "Length", n, e, c.length)
	}
	n, e := dyadic.Length(of(0, far))
	wantInt(t, "Length of 0", n, e, 0)
	n, e = dyadic.Top(of(0, -far))
	wantNoInt(t, "Top of 0", n, e, api.ErrArg)
}

// P8.7: Ratio, against what package ratio makes of numerator and denominator.
func TestRatio(t *testing.T) {
	for _, a := range samples() {
		num := laid(t, api.Dyadic{Man: a.Man, Exp: max(a.Exp, 0)}, 0)
		made := must[api.Ratio](t)(ratio.Make(num, api.Whole{Abs: power(max(-a.Exp, 0))}))
		r, e := dyadic.Ratio(a)
		wantRatio(t, "Ratio", r, e, made.Num, made.Den)
	}
}

// P8.15: Ratio of a sum is the sum of Ratios, and so of products; Make of its
// parts is it.
func TestRatiosOfSums(t *testing.T) {
	reckon, made := must[api.Ratio](t), must[api.Dyadic](t)
	m := mix(7)
	for i := range 200 {
		a, b := m.dyadic(1+i%3), m.dyadic(1+i%4)
		x, y := reckon(dyadic.Ratio(a)), reckon(dyadic.Ratio(b))
		sum, product := made(dyadic.Add(a, b)), made(dyadic.Mul(a, b))
		for _, c := range []struct {
			of   api.Dyadic
			want api.Ratio
		}{{sum, reckon(ratio.Add(x, y))}, {product, reckon(ratio.Mul(x, y))}} {
			got, e := dyadic.Ratio(c.of)
			wantRatio(t, "Ratio", got, e, c.want.Num, c.want.Den)
			again, e := dyadic.Make(c.of.Man, c.of.Exp)
			want(t, "Make of its parts", again, e, c.of)
			if !same(again, c.of) {
				t.Errorf("%v is not normal", short(c.of))
			}
		}
	}
}

// P8.7, R6: numerators and denominators at the limit, and beyond.
func TestRatioAtTheLimit(t *testing.T) {
	const n = api.MaxBits
	one := of(1, 0).Man
	r, e := dyadic.Ratio(of(1, n-1))
	wantRatio(t, "2^(n-1)", r, e, api.Whole{Abs: power(n - 1)}, api.Nat{1})
	r, e = dyadic.Ratio(of(4, -n-1))
	wantRatio(t, "2^(1-n)", r, e, one, power(n-1))
	r, e = dyadic.Ratio(below(ones(n), 1-n))
	wantRatio(t, "both", r, e, api.Whole{Neg: true, Abs: ones(n)}, power(n-1))
	r, e = dyadic.Ratio(of(0, far))
	wantRatio(t, "0", r, e, api.Whole{}, api.Nat{1})
	r, e = dyadic.Ratio(above(power(3*n), -3*n))
	wantRatio(t, "in a long shape", r, e, one, api.Nat{1})
	for _, a := range []api.Dyadic{
		of(1, n), of(3, n-1), of(1, -n), of(-5, -n), of(1, far), of(2, far), of(1, -far), above(powerAnd(n, 1), 0), above(ones(n+1), -5), above(ones(n), 1), above(powerAnd(n, 1), -far),
	} {
		r, e := dyadic.Ratio(a)
		wantErr(t, "Ratio", api.Dyadic{Man: r.Num, Exp: len(r.Den)}, e, api.ErrBig)
	}
}
