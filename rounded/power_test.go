package rounded_test

import (
	"math"
	"testing"

	"surd/api"
	"surd/dyadic"
	"surd/nat"
	"surd/ratio"
	"surd/rounded"
	"surd/whole"
)

// powered is Power, still to be told the direction.
func powered(a api.Dyadic, k, pos int) func(mode api.Mode) (api.Dyadic, api.Errno) {
	return func(mode api.Mode) (api.Dyadic, api.Errno) { return rounded.Power(a, k, pos, mode) }
}

// mostPower is the greatest exponent, either way.
const mostPower = 1 << 20

// The chapter's examples 3 and 4, as far as they are of Power and Exact.
func TestExamplesOfPower(t *testing.T) {
	wantRow(t, "3^3", row{down: of(24, 0), up: of(28, 0), near: of(28, 0)}, powered(of(3, 0), 3, 2))
	wantRow(t, "2^-3", exactly(of(1, -3)), powered(of(2, 0), -3, -3))
	wantRow(t, "0^0", exactly(of(1, 0)), powered(of(0, 0), 0, 0))
	wantExact(t, "3/8", over(3, 8), of(3, -3))
	wantInexact(t, "1/3", over(1, 3))
}

// P9.2: powers, by products of dyadics and by quotients of whole numbers.
func TestPower(t *testing.T) {
	one := of(1, 0)
	for _, a := range samples() {
		product := one
		for k := range 6 {
			top := product.Exp + nat.Length(product.Man.Abs)
			for _, d := range []int{-300, -70, -64, -5, -2, -1, 0, 1, 2, 70} {
				for _, mode := range modes() {
					got, e := rounded.Power(a, k, top+d, mode)
					want(t, "Power", got, e, quotient(t, product, one, top+d, mode))
					got, e = rounded.Power(a, -k, d-top, mode)
					if dyadic.Sign(product) == 0 {
						wantErr(t, "0 to a power below 0", got, e, api.ErrRoundZero)
						continue
					}
					want(t, "Power below 0", got, e, quotient(t, one, product, d-top, mode))
				}
			}
			product = times(t, product, a)
		}
	}
}

// P9.2: high powers, by products.
func TestHighPowers(t *testing.T) {
	three := nat.From(3)
	for range 10 {
		three = must[api.Dyadic](t)(dyadic.Mul(above(three, 0), above(three, 0))).Man.Abs
	}
	power, one := below(three, 0), of(1, 0) // 3^1024, and so its opposite
	for _, pos := range []int{-1000, 0, 1000, 1500, 1621, 1622, 1623, 1624, 1625} {
		wantRow(t, "3^1024", row{
			down: quotient(t, minus(power), one, pos, api.Down), up: quotient(t, minus(power), one, pos, api.Up), near: quotient(t, minus(power), one, pos, api.Near),
		}, powered(of(-3, 0), 1024, pos))
		wantRow(t, "3^-1024", row{
			down: quotient(t, one, minus(power), -pos, api.Down), up: quotient(t, one, minus(power), -pos, api.Up), near: quotient(t, one, minus(power), -pos, api.Near),
		}, powered(of(3, 0), -1024, -pos))
	}
	wantRow(t, "1", exactly(of(1, 0)), powered(of(1, 0), mostPower, -5))
	wantRow(t, "-1", exactly(of(-1, 0)), powered(of(-1, 0), mostPower-1, -5))
	wantRow(t, "-1", exactly(of(-1, 0)), powered(of(-1, 0), 1-mostPower, -5))
	wantRow(t, "0", exactly(of(0, 0)), powered(of(0, far), mostPower, -far))
	wantRow(t, "-8", exactly(of(1, 3*mostPower)), powered(of(-8, 0), mostPower, 3*mostPower-50))
	wantRow(t, "-1/8", exactly(of(1, 3*mostPower)), powered(of(-1, -3), -mostPower, 0))
}

// P9.2, R6: exponents and positions as far as may be.
func TestPowersFarAway(t *testing.T) {
	const k = mostPower
	nought, high, low := api.Dyadic{}, of(1, far), of(1, -far)
	long := above(ones(63), 0) // As long as may be for the highest powers.
	wantRow(t, "much", refused(api.ErrBig), powered(high, k, far))
	wantRow(t, "much", refused(api.ErrBig), powered(low, -k, far))
	wantRow(t, "much", refused(api.ErrBig), powered(long, k, -far))
	wantRow(t, "much", refused(api.ErrBig), powered(above(ones(63), far), k, 0))
	wantRow(t, "a little", row{down: nought, up: low, near: nought}, powered(low, k, -far))
	wantRow(t, "a little", row{down: nought, up: high, near: nought}, powered(high, -k, far))
	wantRow(t, "a little", row{down: nought, up: high, near: nought}, powered(long, k, far))
	wantRow(t, "a little", row{down: nought, up: of(1, 5), near: nought}, powered(long, -k, 5))
	wantRow(t, "a little below 0", row{down: of(-1, 5), up: nought, near: nought}, powered(minus(long), 1-k, 5))
	wantRow(t, "the farthest", exactly(high), powered(of(1, far/k), k, far-9))
	wantRow(t, "the farthest", exactly(high), powered(of(1, -far/k), -k, far))
	wantRow(t, "the least", exactly(low), powered(of(1, -far/k), k, -far))
	wantRow(t, "the least", exactly(low), powered(of(-1, far/k), -k, -far))
	wantRow(t, "too far", refused(api.ErrDyadicExp), powered(of(1, far/k+1), k, far))
	wantRow(t, "too far", refused(api.ErrDyadicExp), powered(of(2, far), 1, far))
	wantRow(t, "3 / 2 of the farthest", row{down: high, e: [3]api.Errno{api.OK, api.ErrDyadicExp, api.ErrDyadicExp}}, powered(of(3, far-1), 1, far))
	wantRow(t, "half of a step", row{down: nought, up: high, near: nought}, powered(of(1, far-1), 1, far))
	wantRow(t, "half of a step", row{down: nought, up: of(1, 8), near: nought}, powered(of(1, -7), -1, 8))
	wantRow(t, "1 at the top", row{down: nought, up: high, near: nought}, powered(of(5, -far), 0, far))
	wantRow(t, "1 at the bottom", refused(api.ErrBig), powered(of(5, -far), 0, -far))
}

// P9.2: the mantissa, as it is normal, may have so many bits and no more; the
// power too.
func TestPowersAtTheLimit(t *testing.T) {
	const n = api.MaxBits
	nought := api.Dyadic{}
	for _, c := range []struct{ k, bits int }{
		{0, n}, {1, n / 2}, {-1, n / 2}, {2, n / 3}, {-2, n / 3}, {3, n / 4}, {-100, n / 101}, {mostPower, 63}, {-mostPower, 63}, {mostPower - 1, 64}, {1 - mostPower, 64},
	} {
		tiny := row{down: nought, up: of(1, far), near: nought}
		wantRow(t, "as many", tiny, powered(above(ones(c.bits), -50), c.k, far))
		wantRow(t, "as many, and noughts", tiny, powered(above(append(make(api.Nat, 3), ones(c.bits)...), -50), c.k, far))
		wantRow(t, "one more", refused(api.ErrBig), powered(above(ones(c.bits+1), -50), c.k, far))
	}
	wantRow(t, "1 with noughts", exactly(of(1, 0)), powered(above(power(3*n), -3*n), mostPower, 0))
	half := above(ones(n/2), 0)
	wantRow(t, "the number", exactly(half), powered(half, 1, -n/2))
	wantRow(t, "the number, one lower", refused(api.ErrBig), powered(half, 1, -n/2-1))
	wantRow(t, "n bits of 1", exactly(of(1, 0)), powered(of(1, 0), 7, 1-n))
	wantRow(t, "one more", refused(api.ErrBig), powered(of(1, 0), -7, -n))
	a := thirds(n, false)
	wantRow(t, "1/3", row{down: above(a, -n), up: above(plusOne(a), -n), near: above(a, -n)}, powered(of(3, 0), -1, -n))
	wantRow(t, "1/3", refused(api.ErrBig), powered(of(3, 0), -1, -n-2))
}

// wantExact asks for that dyadic, and true.
func wantExact(t *testing.T, what string, r api.Ratio, wanted api.Dyadic) {
	t.Helper()
	got, ok, e := rounded.Exact(r)
	want(t, what, got, e, wanted)
	if !ok {
		t.Errorf("%s: not a dyadic", what)
	}
}

// wantInexact asks for false, and nothing else.
func wantInexact(t *testing.T, what string, r api.Ratio) {
	t.Helper()
	got, ok, e := rounded.Exact(r)
	wantErr(t, what, got, e, api.OK)
	if ok {
		t.Errorf("%s: a dyadic", what)
	}
}

// P9.2: Exact, of small terms and of drawn dyadics, in any shape.
func TestExact(t *testing.T) {
	for n := -40; n <= 40; n++ {
		for d := 1; d <= 40; d++ {
			lowest := must[api.Ratio](t)(ratio.Norm(over(n, d)))
			if nat.Count(lowest.Den) == 1 {
				wantExact(t, "small", over(n, d), api.Dyadic{Man: lowest.Num, Exp: -nat.Tail(lowest.Den)})
				continue
			}
			wantInexact(t, "small", over(n, d))
		}
	}
	drawn := mix(6)
	for i, a := range samples() {
		r := must[api.Ratio](t)(dyadic.Ratio(a))
		wantExact(t, "of a dyadic", r, a)
		by := api.Whole{Abs: append(drawn.nat(i%4), 6)}
		r.Num = must[api.Whole](t)(whole.Mul(r.Num, by))
		den := append(must[api.Whole](t)(whole.Mul(api.Whole{Abs: r.Den}, by)).Abs, 0)
		wantExact(t, "with a common factor", api.Ratio{Num: r.Num, Den: den}, a)
		if dyadic.Sign(a) != 0 {
			r.Num.Abs, _ = nat.Add(r.Num.Abs, nat.From(1))
			lowest := must[api.Ratio](t)(ratio.Make(r.Num, api.Whole{Abs: den}))
			if nat.Count(lowest.Den) > 1 {
				wantInexact(t, "next to a dyadic", api.Ratio{Num: r.Num, Den: den})
			}
		}
	}
}

// P9.2, R6: lengths at the limit, terms that are longer, and Den 0.
func TestExactAtTheLimit(t *testing.T) {
	const n = api.MaxBits
	whole := func(a api.Nat) api.Whole { return api.Whole{Abs: a} }
	wantExact(t, "n bits", api.Ratio{Num: whole(ones(n)), Den: power(2*n + 1)}, above(ones(n), -2*n-1))
	wantExact(t, "long noughts", api.Ratio{Num: whole(append(make(api.Nat, 2*n/64), 12)), Den: nat.From(3)}, of(1, 2*n+2))
	wantExact(t, "long terms", api.Ratio{Num: whole(ones(2 * n)), Den: ones(2 * n)}, of(1, 0))
	wantInexact(t, "a long denominator", api.Ratio{Num: whole(nat.From(1)), Den: powerAnd(2*n, 1)})
	wantInexact(t, "a long numerator", api.Ratio{Num: whole(powerAnd(2*n, 1)), Den: nat.From(3)})
	thrice := append(ones(n)[:n/64:n/64], 2)
	thrice[0] -= 2
	wantExact(t, "n bits, three times", api.Ratio{Num: api.Whole{Neg: true, Abs: thrice}, Den: api.Nat{12}}, below(ones(n), -2))
	for _, r := range []api.Ratio{
		{Num: whole(ones(n + 1)), Den: nat.From(1)}, {Num: whole(ones(n + 1)), Den: nat.From(4)}, {Num: whole(ones(n + 1)), Den: power(n)}, {Num: whole(ones(n + 2)), Den: nat.From(3)},
	} {
		got, ok, e := rounded.Exact(r)
		wantErr(t, "n + 1 bits", got, e, api.ErrBig)
		if ok {
			t.Error("an error, and true")
		}
	}
	for _, den := range []api.Nat{nil, {}, {0}, {0, 0}} {
		for _, num := range []api.Whole{{}, whole(nat.From(1)), whole(ones(n + 1))} {
			got, ok, e := rounded.Exact(api.Ratio{Num: num, Den: den})
			wantErr(t, "over 0", got, e, api.ErrRatioZero)
			if ok {
				t.Error("over 0, and true")
			}
		}
	}
}

// P9.1, P9.2, R2: wrong arguments, in their order.
func TestRefused(t *testing.T) {
	long := above(ones(api.MaxBits+1), 0)
	numbers := append(samples()[:9], of(1, far), of(3, -far), long)
	for _, a := range numbers {
		for _, mode := range []api.Mode{api.Down, api.Up, api.Near, -1, 3, math.MaxInt, math.MinInt} {
			for _, exp := range []int{far + 1, -far - 1, math.MaxInt, math.MinInt} {
				for _, pos := range []int{0, far, -far, far + 1, -far - 1, math.MaxInt, math.MinInt} {
					lost := api.Dyadic{Man: a.Man, Exp: exp}
					wantFault(t, "Quo", api.ErrDyadicExp, quo(lost, a, pos), mode)
					wantFault(t, "Quo", api.ErrDyadicExp, quo(a, lost, pos), mode)
					wantFault(t, "Quo", api.ErrDyadicExp, quo(lost, of(0, 0), pos), mode)
					wantFault(t, "Sqrt", api.ErrDyadicExp, sqrt(lost, pos), mode)
					wantFault(t, "Sqrt", api.ErrDyadicExp, sqrt(minus(lost), pos), mode)
					wantFault(t, "Power", api.ErrDyadicExp, powered(lost, 0, pos), mode)
					wantFault(t, "Power", api.ErrDyadicExp, powered(lost, mostPower+1, pos), mode)
					wantFault(t, "Ratio", api.ErrRatioZero, rational(api.Ratio{Num: a.Man, Den: api.Nat{0}}, pos), mode)
				}
				wantFault(t, "Quo", api.ErrArg, quo(a, a, exp), mode)
				wantFault(t, "Quo", api.ErrArg, quo(a, of(0, 0), exp), mode)
				wantFault(t, "Sqrt", api.ErrArg, sqrt(a, exp), mode)
				wantFault(t, "Sqrt", api.ErrArg, sqrt(minus(a), exp), mode)
				wantFault(t, "Ratio", api.ErrArg, rational(api.Ratio{Num: a.Man, Den: api.Nat{3}}, exp), mode)
				wantFault(t, "Power", api.ErrArg, powered(a, -1, exp), mode)
				wantFault(t, "Power", api.ErrArg, powered(a, mostPower+1, exp), mode)
			}
			for _, k := range []int{mostPower + 1, -mostPower - 1, math.MaxInt, math.MinInt} {
				wantFault(t, "Power", api.ErrArg, powered(a, k, 0), mode)
			}
		}
		for _, mode := range []api.Mode{-1, 3, math.MaxInt, math.MinInt} {
			wantFault(t, "Quo", api.ErrDyadicMode, quo(a, a, far), mode)
			wantFault(t, "Quo", api.ErrDyadicMode, quo(a, of(0, 0), -far), mode)
			wantFault(t, "Sqrt", api.ErrDyadicMode, sqrt(a, -far), mode)
			wantFault(t, "Sqrt", api.ErrDyadicMode, sqrt(minus(a), far), mode)
			wantFault(t, "Ratio", api.ErrDyadicMode, rational(api.Ratio{Num: a.Man, Den: api.Nat{3}}, -far), mode)
			wantFault(t, "Power", api.ErrDyadicMode, powered(a, mostPower, far), mode)
			wantFault(t, "Power", api.ErrDyadicMode, powered(a, -1, -far), mode)
			wantFault(t, "Power", api.ErrDyadicMode, powered(long, 0, 0), mode)
		}
		for _, mode := range modes() {
			wantFault(t, "Quo", api.ErrRoundZero, quo(a, below(api.Nat{0}, far), -far), mode)
			wantFault(t, "Power", api.ErrRoundZero, powered(below(api.Nat{0}, far), -1, -far), mode)
			if dyadic.Sign(a) > 0 {
				wantFault(t, "Sqrt", api.ErrRoundRoot, sqrt(minus(a), -far), mode)
			}
		}
	}
	for k := range 3 {
		wantRow(t, "a long number", refused(api.ErrBig), powered(long, k-1, far))
	}
}

// wantFault asks for an error in one direction, or in none.
func wantFault(t *testing.T, what string, wanted api.Errno, call func(mode api.Mode) (api.Dyadic, api.Errno), mode api.Mode) {
	t.Helper()
	got, e := call(mode)
	wantErr(t, what, got, e, wanted)
}
