package whole_test

import (
	"math"
	"testing"

	"surd/api"
	"surd/whole"
)

// two is a call of two numbers.
type two func(a, b api.Whole) (api.Whole, api.Errno)

// P6.3: sums, differences and products of small numbers, as Go has them.
func TestRingOfInts(t *testing.T) {
	for a := -15; a <= 15; a++ {
		for b := -15; b <= 15; b++ {
			got, e := whole.Add(of(a), of(b))
			wantOK(t, "Add", got, e, of(a+b))
			got, e = whole.Sub(of(a), of(b))
			wantOK(t, "Sub", got, e, of(a-b))
			got, e = whole.Mul(of(a), of(b))
			wantOK(t, "Mul", got, e, of(a*b))
		}
	}
}

// P6.3: of all pairs.
func TestRing(t *testing.T) {
	const n = 44
	minusOne := limbsOf(of(-1), n)
	for _, a := range samples() {
		for _, b := range samples() {
			x, y := limbsOf(a, n), limbsOf(b, n)
			got, e := whole.Add(a, b)
			wantModel(t, "Add", got, e, modelSum(x, y))
			got, e = whole.Sub(a, b)
			wantModel(t, "Sub", got, e, modelSum(x, modelProduct(y, minusOne)))
			got, e = whole.Mul(a, b)
			wantModel(t, "Mul", got, e, modelProduct(x, y))
		}
	}
}

// P6.10: a ring with an order.
func TestLawsOfTheRing(t *testing.T) {
	add := func(a, b api.Whole) api.Whole { return must(t)(whole.Add(a, b)) }
	sub := func(a, b api.Whole) api.Whole { return must(t)(whole.Sub(a, b)) }
	mul := func(a, b api.Whole) api.Whole { return must(t)(whole.Mul(a, b)) }
	some := samples()
	for i, a := range some {
		wantWhole(t, "a + Neg(a)", add(a, must(t)(whole.Neg(a))), of(0))
		for j, b := range some {
			c := some[(7*i+3*j+1)%len(some)]
			wantWhole(t, "a + b the other way round", add(a, b), add(b, a))
			wantWhole(t, "a b the other way round", mul(a, b), mul(b, a))
			wantWhole(t, "a + b + c", add(add(a, b), c), add(a, add(b, c)))
			wantWhole(t, "a b c", mul(mul(a, b), c), mul(a, mul(b, c)))
			wantWhole(t, "a (b + c)", mul(a, add(b, c)), add(mul(a, b), mul(a, c)))
			wantWhole(t, "a - b", sub(a, b), add(a, must(t)(whole.Neg(b))))
			if whole.Compare(a, b) != whole.Sign(sub(a, b)) {
				t.Errorf("Compare of %v and %v is not the sign of the difference", short(a), short(b))
			}
		}
	}
}

// P6.3, R6: ErrBig is asked of the answers, not of what is handed in.
func TestRingAtTheLimit(t *testing.T) {
	full, over, half := ones(api.MaxBits), power(api.MaxBits), power(api.MaxBits-1)
	one := of(1)
	for _, c := range []struct {
		name string
		f    two
		a, b api.Whole
		want api.Whole
	}{
		{"full - 1", whole.Add, above(full), of(-1), above(append(api.Nat{^uint64(0) - 1}, full[1:]...))},
		{"over - 1", whole.Sub, above(over), one, above(full)},
		{"1 - over", whole.Add, one, below(over), below(full)},
		{"over - over", whole.Sub, above(over), above(over), of(0)},
		{"over + -over", whole.Add, below(over), above(over), of(0)},
		{"full + 0", whole.Add, above(full), below(api.Nat{0}), above(full)},
		{"full times -1", whole.Mul, above(full), of(-1), below(full)},
		{"half / 2 times 2", whole.Mul, below(power(api.MaxBits - 2)), of(-2), above(half)},
		{"over times 0", whole.Mul, below(over), below(nil), of(0)},
	} {
		got, e := c.f(c.a, c.b)
		wantOK(t, c.name, got, e, c.want)
	}
	for _, c := range []struct {
		name string
		f    two
		a, b api.Whole
	}{
		{"full + 1", whole.Add, above(full), one}, {"-full - 1", whole.Add, below(full), of(-1)},
		{"full - -1", whole.Sub, above(full), of(-1)}, {"-full - 1", whole.Sub, below(full), one},
		{"over + 0", whole.Add, above(over), of(0)}, {"0 - over", whole.Sub, of(0), above(over)},
		{"half + half", whole.Add, above(half), above(half)}, {"half times -2", whole.Mul, above(half), of(-2)},
		{"over times 1", whole.Mul, below(over), one}, {"full times full", whole.Mul, above(full), below(full)},
	} {
		got, e := c.f(c.a, c.b)
		wantErr(t, c.name, e, api.ErrBig, got)
	}
}

// P6.3: powers of small numbers, as many products.
func TestPow(t *testing.T) {
	for _, a := range samples()[:60] {
		want := of(1)
		for n := range 8 {
			got, e := whole.Pow(a, n)
			wantOK(t, "Pow", got, e, want)
			want = must(t)(whole.Mul(want, a))
		}
	}
}

// P6.3: powers at their ends: of 0, 1 and -1 there are all, and below 0 none.
func TestPowAtTheEnds(t *testing.T) {
	for _, c := range []struct {
		a       api.Whole
		n, want int
	}{
		{of(0), 0, 1}, {below(api.Nat{0}), 0, 1}, {of(0), 1, 0}, {of(0), math.MaxInt, 0}, {below(api.Nat{0, 0}), math.MaxInt, 0}, {of(-7), 0, 1},
		{of(1), math.MaxInt, 1}, {of(-1), math.MaxInt, -1}, {of(-1), math.MaxInt - 1, 1}, {of(-2), 3, -8}, {of(-2), 4, 16},
	} {
		got, e := whole.Pow(c.a, c.n)
		wantOK(t, "Pow", got, e, of(c.want))
	}
	for _, n := range []int{-1, -2, math.MinInt} {
		for _, a := range []api.Whole{of(0), of(1), of(-1), of(2), below(power(api.MaxBits))} {
			got, e := whole.Pow(a, n)
			wantErr(t, "Pow below 0", e, api.ErrArg, got)
		}
	}
	got, e := whole.Pow(of(-2), api.MaxBits-1)
	wantOK(t, "(-2)^(MaxBits - 1)", got, e, below(power(api.MaxBits-1)))
	for _, n := range []int{api.MaxBits, 1 << 40, math.MaxInt} {
		got, e := whole.Pow(of(-2), n)
		wantErr(t, "(-2)^n", e, api.ErrBig, got)
	}
	got, e = whole.Pow(below(power(api.MaxBits)), 0)
	wantOK(t, "over^0", got, e, of(1))
}

// P6.4: small numbers, upwards and downwards, as Go shifts them.
func TestShiftOfInts(t *testing.T) {
	for a := -70; a <= 70; a++ {
		for n := range 12 {
			got, e := whole.Shift(of(a), n)
			wantOK(t, "Shift", got, e, of(a<<n))
			got, e = whole.Shift(of(a), -n)
			wantOK(t, "Shift back", got, e, of(a>>n))
		}
	}
}

// P6.4, P6.14: upwards it is a product with 2^n; downwards the greatest number
// whose product is not above a.
func TestShift(t *testing.T) {
	for _, a := range samples() {
		for _, n := range []int{0, 1, 7, 63, 64, 65, 127, 128, 129, 300, 1000, 3000} {
			by := above(power(n))
			got, e := whole.Shift(a, n)
			wantOK(t, "Shift", got, e, must(t)(whole.Mul(a, by)))
			got, e = whole.Shift(a, -n)
			left := must(t)(whole.Sub(a, must(t)(whole.Mul(got, by))))
			if e != api.OK || whole.Sign(left) < 0 || whole.Compare(left, by) >= 0 {
				t.Errorf("Shift of %v by %d: %v, error %d", short(a), -n, short(got), e)
			}
			wantNormal(t, "Shift back", got)
		}
	}
}

// The chapter's example 3, and P6.4: any n.
func TestShiftByAnything(t *testing.T) {
	for _, c := range []struct{ a, n, want int }{
		{-7, -1, -4}, {-7, math.MinInt, -1}, {0, 1 << 62, 0}, {7, math.MinInt, 0}, {0, math.MinInt, 0}, {0, math.MaxInt, 0},
		{-1, -1, -1}, {-8, -3, -1}, {-8, -4, -1}, {-9, -3, -2}, {-1, math.MinInt + 1, -1}, {7, -1 << 41, 0}, {-7, -1 << 41, -1}, {7, -3, 0}, {7, -2, 1},
	} {
		got, e := whole.Shift(of(c.a), c.n)
		wantOK(t, "Shift", got, e, of(c.want))
	}
	got, e := whole.Shift(below(api.Nat{0, 0}), 1<<62)
	wantOK(t, "Shift of -0", got, e, of(0))
	got, e = whole.Shift(below(api.Nat{0}), -3)
	wantOK(t, "Shift of -0 back", got, e, of(0))
	for _, n := range []int{api.MaxBits, api.MaxBits + 1, 1 << 40, 1<<40 + 1, 1 << 62, math.MaxInt} {
		for _, a := range []int{1, -1} {
			got, e := whole.Shift(of(a), n)
			wantErr(t, "Shift of 1", e, api.ErrBig, got)
		}
	}
	got, e = whole.Shift(of(-1), api.MaxBits-1)
	wantOK(t, "Shift of -1 by MaxBits - 1", got, e, below(power(api.MaxBits-1)))
}

// P6.4, R6: downwards a number may become by 1 too great.
func TestShiftAtTheLimit(t *testing.T) {
	full := ones(api.MaxBits)
	got, e := whole.Shift(above(ones(api.MaxBits+3)), -3)
	wantOK(t, "far by -3", got, e, above(full))
	got, e = whole.Shift(below(ones(api.MaxBits+3)), -3)
	wantErr(t, "-far by -3", e, api.ErrBig, got)
	got, e = whole.Shift(below(ones(api.MaxBits+3)), -4)
	wantOK(t, "-far by -4", got, e, below(power(api.MaxBits-1)))
	got, e = whole.Shift(below(power(api.MaxBits+3)), -4)
	wantOK(t, "-2^n by -4", got, e, below(power(api.MaxBits-1)))
	got, e = whole.Shift(below(power(api.MaxBits)), 0)
	wantErr(t, "over by 0", e, api.ErrBig, got)
	got, e = whole.Shift(below(power(api.MaxBits+3)), -2)
	wantErr(t, "-2^n by -2", e, api.ErrBig, got)
}
