package dyadic_test

import (
	"cmp"
	"math"
	"testing"

	"surd/api"
	"surd/dyadic"
	"surd/nat"
	"surd/whole"
)

// The chapter's example 1.
func TestExamplesOfTheRing(t *testing.T) {
	a, e := dyadic.Make(whole.Of(12), -3)
	want(t, "Make(12, -3)", a, e, of(3, -1))
	a, e = dyadic.Make(api.Whole{Neg: true, Abs: api.Nat{0}}, 7)
	want(t, "Make(0, 7)", a, e, api.Dyadic{})
	a, e = dyadic.Add(of(3, -1), of(1, -1))
	want(t, "3p-1 + 1p-1", a, e, of(1, 1))
	a, e = dyadic.Mul(of(3, -1), of(3, -1))
	want(t, "3p-1 times 3p-1", a, e, of(9, -2))
	n, e := dyadic.Compare(of(1, 1000000000000), of(3, 0))
	wantInt(t, "Compare(1p1000000000000, 3p0)", n, e, 1)
}

// P8.1: Make, of every shape, and Of.
func TestMake(t *testing.T) {
	for _, a := range samples() {
		got, e := dyadic.Make(a.Man, a.Exp)
		want(t, "Make", got, e, a)
	}
	for _, exp := range []int{far + 1, -far - 1, math.MaxInt, math.MinInt} {
		for _, m := range []api.Whole{{}, whole.Of(1), whole.Of(-8), {Abs: power(api.MaxBits + 1)}} {
			got, e := dyadic.Make(m, exp)
			wantErr(t, "Make of a far exponent", got, e, api.ErrArg)
		}
	}
	for _, n := range []int{0, 1, -1, 2, 3, -12, 96, 1 << 40, math.MaxInt, math.MinInt, math.MinInt + 1} {
		want(t, "Of", dyadic.Of(n), api.OK, of(n, 0))
	}
}

// smallest and greatest are the exponents of small numbers.
const smallest, greatest = -3, 3

// small are all numbers m times 2^e with small m and e.
func small() []api.Dyadic {
	var out []api.Dyadic
	for exp := smallest; exp <= greatest; exp++ {
		for m := -9; m <= 9; m++ {
			out = append(out, of(m, exp))
		}
	}
	return out
}

// count is a small number in steps of 2^smallest.
func count(a api.Dyadic) int {
	n, _ := whole.Int(a.Man)
	return n << (a.Exp - smallest)
}

// P8.2, P8.3, P8.8: small numbers, by ints.
func TestRingOfInts(t *testing.T) {
	for _, a := range small() {
		x := count(a)
		got, e := dyadic.Neg(a)
		want(t, "Neg", got, e, of(-x, smallest))
		got, e = dyadic.Abs(a)
		want(t, "Abs", got, e, of(max(x, -x), smallest))
		if dyadic.Sign(a) != cmp.Compare(x, 0) {
			t.Errorf("Sign of %v", a)
		}
		for _, b := range small() {
			y := count(b)
			got, e = dyadic.Add(a, b)
			want(t, "Add", got, e, of(x+y, smallest))
			got, e = dyadic.Sub(a, b)
			want(t, "Sub", got, e, of(x-y, smallest))
			got, e = dyadic.Mul(a, b)
			want(t, "Mul", got, e, of(x*y, 2*smallest))
			got, e = dyadic.Middle(a, b)
			want(t, "Middle", got, e, of(x+y, smallest-1))
			got, e = dyadic.Min(a, b)
			want(t, "Min", got, e, of(min(x, y), smallest))
			got, e = dyadic.Max(a, b)
			want(t, "Max", got, e, of(max(x, y), smallest))
			n, e := dyadic.Compare(a, b)
			wantInt(t, "Compare", n, e, cmp.Compare(x, y))
		}
	}
}

// P8.2, P8.3, P8.8: all pairs of samples, by whole numbers.
func TestRing(t *testing.T) {
	reckon := must[api.Whole](t)
	for _, a := range samples() {
		for _, b := range samples() {
			unit := min(a.Exp, b.Exp)
			x, y := laid(t, a, unit), laid(t, b, unit)
			got, e := dyadic.Add(a, b)
			want(t, "Add", got, e, api.Dyadic{Man: reckon(whole.Add(x, y)), Exp: unit})
			got, e = dyadic.Sub(a, b)
			want(t, "Sub", got, e, api.Dyadic{Man: reckon(whole.Sub(x, y)), Exp: unit})
			got, e = dyadic.Mul(a, b)
			want(t, "Mul", got, e, api.Dyadic{Man: reckon(whole.Mul(x, y)), Exp: 2 * unit})
			got, e = dyadic.Middle(a, b)
			want(t, "Middle", got, e, api.Dyadic{Man: reckon(whole.Add(x, y)), Exp: unit - 1})
			n, e := dyadic.Compare(a, b)
			wantInt(t, "Compare", n, e, whole.Compare(x, y))
			low, high := a, b
			if n > 0 {
				low, high = b, a
			}
			got, e = dyadic.Min(a, b)
			want(t, "Min", got, e, low)
			got, e = dyadic.Max(a, b)
			want(t, "Max", got, e, high)
		}
	}
}

// P8.2, P8.3: numbers that differ in their last bits alone, or by a carry
// through all of them.
func TestNeighbours(t *testing.T) {
	for _, n := range []int{64, 65, 127, 128, 129, 200, 640} {
		for shift := range 70 {
			a := above(ones(n), -shift)
			got, e := dyadic.Add(a, of(1, -shift))
			want(t, "ones and 1", got, e, of(1, n-shift))
			got, e = dyadic.Sub(of(1, n-shift), of(1, -shift))
			want(t, "2^n - 1", got, e, a)
			order, e := dyadic.Compare(a, of(1, n-shift))
			wantInt(t, "ones and 2^n", order, e, -1)
			b := above(powerAnd(n+shift, 1), -shift)
			got, e = dyadic.Sub(b, of(1, n))
			want(t, "what is left", got, e, of(1, -shift))
			order, e = dyadic.Compare(minus(b), of(-1, n))
			wantInt(t, "the last bit", order, e, -1)
			order, e = dyadic.Compare(of(1, n), above(power(n+shift), -shift))
			wantInt(t, "two shapes", order, e, 0)
		}
	}
}

// P8.2: exponents as far apart as may be; no memory is taken for it.
func TestCompareFarApart(t *testing.T) {
	high, low := above(api.Nat{2, 0}, far), of(3, -far)
	for _, c := range []struct {
		a, b api.Dyadic
		want int
	}{
		{high, low, 1}, {low, high, -1}, {minus(high), minus(low), -1}, {minus(low), minus(high), 1}, {minus(high), low, -1}, {low, of(0, far), 1}, {of(0, -far), minus(low), 1},
		{high, high, 0}, {of(0, far), of(0, -far), 0}, {high, of(1, far), 1}, {high, of(3, far), -1}, {of(1, far), above(power(900), far-900), 0}, {of(1, -far+900), above(powerAnd(900, 1), -far), -1},
	} {
		n, e := dyadic.Compare(c.a, c.b)
		wantInt(t, "Compare", n, e, c.want)
	}
	a, b := above(ones(1<<20), -far), above(power(1<<20), -far)
	if made := testing.AllocsPerRun(5, func() {
		dyadic.Compare(high, low)
		dyadic.Compare(a, b)
		dyadic.Compare(a, a)
	}); made != 0 {
		t.Errorf("%v pieces of memory were made", made)
	}
}

// P8.3: powers, by products.
func TestPow(t *testing.T) {
	for _, a := range samples()[:40] {
		product := of(1, 0)
		for n := range 9 {
			got, e := dyadic.Pow(a, n)
			want(t, "Pow", got, e, product)
			product = must[api.Dyadic](t)(dyadic.Mul(product, a))
		}
	}
	for _, c := range []struct {
		m, e, n int
		want    api.Dyadic
	}{
		{0, 9, 0, of(1, 0)}, {0, -9, 1, of(0, 0)}, {0, 5, math.MaxInt, of(0, 0)}, {-3, -1, 3, of(-27, -3)}, {1, 0, math.MaxInt, of(1, 0)}, {-1, 0, math.MaxInt, of(-1, 0)}, {-1, 0, math.MaxInt - 1, of(1, 0)},
		{4, -2, math.MaxInt, of(1, 0)}, {-1 << 20, -20, math.MaxInt, of(-1, 0)}, {1, 1, far, of(1, far)}, {-2, 0, far, of(1, far)}, {1, -1, far, of(1, -far)}, {1, far / 2, 2, of(1, far)}, {1, far, 1, of(1, far)}, {6, -far, 0, of(1, 0)},
	} {
		got, e := dyadic.Pow(of(c.m, c.e), c.n)
		want(t, "Pow", got, e, c.want)
	}
	for _, n := range []int{-1, -2, math.MinInt} {
		for _, a := range []api.Dyadic{{}, of(1, 0), of(3, far), above(powerAnd(api.MaxBits, 1), 0)} {
			got, e := dyadic.Pow(a, n)
			wantErr(t, "Pow below 0", got, e, api.ErrArg)
		}
	}
}

// P8.3, R6: powers that are too great: by their bits first, then by their
// exponents, whatever n is.
func TestPowRefused(t *testing.T) {
	for _, c := range []struct {
		a    api.Dyadic
		n    int
		want api.Errno
	}{
		{of(1, 1), far + 1, api.ErrDyadicExp}, {of(1, -1), far + 1, api.ErrDyadicExp}, {of(1, 3), far / 2, api.ErrDyadicExp}, {of(-1, 1), math.MaxInt, api.ErrDyadicExp}, {of(1, -1), math.MaxInt, api.ErrDyadicExp},
		{of(1, far), 2, api.ErrDyadicExp}, {of(1, far), 1 << 24, api.ErrDyadicExp}, {of(1, 1<<32), 1 << 32, api.ErrDyadicExp}, {of(1, -far), 1 << 40, api.ErrDyadicExp}, {of(2, far), 1, api.ErrDyadicExp},
		{of(3, 0), math.MaxInt, api.ErrBig}, {of(3, 1), math.MaxInt, api.ErrBig}, {of(-3, -far), 1 << 40, api.ErrBig}, {of(3, 0), api.MaxBits, api.ErrBig}, {above(powerAnd(api.MaxBits, 1), 1), 1, api.ErrBig}, {above(powerAnd(api.MaxBits, 1), far), 2, api.ErrBig},
	} {
		got, e := dyadic.Pow(c.a, c.n)
		wantErr(t, "Pow", got, e, c.want)
	}
}

// P8.3: Scale.
func TestScale(t *testing.T) {
	for _, a := range samples() {
		for _, k := range []int{0, 1, -1, 63, 64, -64, 1000, -1000} {
			got, e := dyadic.Scale(a, k)
			want(t, "Scale", got, e, api.Dyadic{Man: a.Man, Exp: a.Exp + k})
		}
		for _, k := range []int{far + 1, -far - 1, 1 << 41, math.MaxInt, math.MinInt} {
			got, e := dyadic.Scale(a, k)
			wantErr(t, "Scale by far", got, e, api.ErrArg)
		}
	}
	for _, k := range []int{far, -far} {
		got, e := dyadic.Scale(of(0, k), k)
		want(t, "0", got, e, api.Dyadic{})
		got, e = dyadic.Scale(of(1, -k), k)
		want(t, "back to 1", got, e, of(1, 0))
		got, e = dyadic.Scale(of(-1, 0), k)
		want(t, "-1", got, e, of(-1, k))
		got, e = dyadic.Scale(of(1, k/far), k)
		wantErr(t, "too far", got, e, api.ErrDyadicExp)
	}
}

// P8.10: the laws of a ring with an order.
func TestLawsOfTheRing(t *testing.T) {
	reckon := must[api.Dyadic](t)
	m := mix(2)
	for i := range 300 {
		a, b, c := m.dyadic(1+i%5), m.dyadic(1+i%4), m.dyadic(1+i%3)
		ab, e := dyadic.Add(a, b)
		want(t, "a + b", ab, e, reckon(dyadic.Add(b, a)))
		want(t, "(a + b) + c", reckon(dyadic.Add(ab, c)), api.OK, reckon(dyadic.Add(a, reckon(dyadic.Add(b, c)))))
		product := reckon(dyadic.Mul(a, b))
		want(t, "a b", product, api.OK, reckon(dyadic.Mul(b, a)))
		want(t, "(a b) c", reckon(dyadic.Mul(product, c)), api.OK, reckon(dyadic.Mul(a, reckon(dyadic.Mul(b, c)))))
		want(t, "(a + b) c", reckon(dyadic.Mul(ab, c)), api.OK, reckon(dyadic.Add(reckon(dyadic.Mul(a, c)), reckon(dyadic.Mul(b, c)))))
		want(t, "a + 0", reckon(dyadic.Add(a, of(0, i))), api.OK, a)
		want(t, "a 1", reckon(dyadic.Mul(a, of(1, 0))), api.OK, a)
		want(t, "a - a", reckon(dyadic.Add(a, reckon(dyadic.Neg(a)))), api.OK, api.Dyadic{})
		difference := reckon(dyadic.Sub(a, b))
		want(t, "a - b", difference, api.OK, reckon(dyadic.Add(a, reckon(dyadic.Neg(b)))))
		n, e := dyadic.Compare(a, b)
		wantInt(t, "Compare", n, e, dyadic.Sign(difference))
		j, k := m.below(300)-150, m.below(300)-150
		want(t, "Scale", reckon(dyadic.Scale(a, j+k)), api.OK, reckon(dyadic.Scale(reckon(dyadic.Scale(a, j)), k)))
		want(t, "Middle", reckon(dyadic.Scale(reckon(dyadic.Middle(a, b)), 1)), api.OK, ab)
	}
}

// P8.3, P8.8, R6: exponents as answers, just as far as may be, and one more.
func TestFarExponents(t *testing.T) {
	type call func() (api.Dyadic, api.Errno)
	fine := func(what string, f call, wanted api.Dyadic) {
		t.Helper()
		got, e := f()
		want(t, what, got, e, wanted)
	}
	refused := func(what string, f call) {
		t.Helper()
		got, e := f()
		wantErr(t, what, got, e, api.ErrDyadicExp)
	}
	two := of(2, far) // beyond, as it is normal, but it means something
	fine("Make", func() (api.Dyadic, api.Errno) { return dyadic.Make(whole.Of(-5), far) }, of(-5, far))
	fine("Make", func() (api.Dyadic, api.Errno) { return dyadic.Make(whole.Of(1), -far) }, of(1, -far))
	refused("Make(2, far)", func() (api.Dyadic, api.Errno) { return dyadic.Make(whole.Of(2), far) })
	refused("Neg", func() (api.Dyadic, api.Errno) { return dyadic.Neg(two) })
	refused("Abs", func() (api.Dyadic, api.Errno) { return dyadic.Abs(minus(two)) })
	fine("Scale back", func() (api.Dyadic, api.Errno) { return dyadic.Scale(two, -1) }, of(1, far))
	fine("two - two", func() (api.Dyadic, api.Errno) { return dyadic.Sub(two, two) }, api.Dyadic{})
	fine("two - one", func() (api.Dyadic, api.Errno) { return dyadic.Sub(two, of(1, far)) }, of(1, far))
	refused("one and one", func() (api.Dyadic, api.Errno) { return dyadic.Add(of(1, far), of(1, far)) })
	fine("Middle of one and one", func() (api.Dyadic, api.Errno) { return dyadic.Middle(of(1, far), of(1, far)) }, of(1, far))
	fine("Middle of two and 0", func() (api.Dyadic, api.Errno) { return dyadic.Middle(two, of(0, -far)) }, of(1, far))
	fine("Middle of two and -two", func() (api.Dyadic, api.Errno) { return dyadic.Middle(two, minus(two)) }, api.Dyadic{})
	refused("Middle", func() (api.Dyadic, api.Errno) { return dyadic.Middle(two, two) })
	refused("Middle of the least and 0", func() (api.Dyadic, api.Errno) { return dyadic.Middle(of(1, -far), of(0, 0)) })
	fine("Middle of the least and thrice it", func() (api.Dyadic, api.Errno) { return dyadic.Middle(of(1, -far), of(3, -far)) }, of(1, -far+1))
	fine("Min", func() (api.Dyadic, api.Errno) { return dyadic.Min(two, of(7, 0)) }, of(7, 0))
	refused("Min", func() (api.Dyadic, api.Errno) { return dyadic.Min(of(7, 0), minus(two)) })
	fine("Max", func() (api.Dyadic, api.Errno) { return dyadic.Max(of(7, 0), minus(two)) }, of(7, 0))
	refused("Max", func() (api.Dyadic, api.Errno) { return dyadic.Max(two, of(7, 0)) })
	fine("Mul", func() (api.Dyadic, api.Errno) { return dyadic.Mul(two, of(3, -1)) }, of(3, far))
	refused("Mul", func() (api.Dyadic, api.Errno) { return dyadic.Mul(of(1, far), of(1, 1)) })
	refused("Mul", func() (api.Dyadic, api.Errno) { return dyadic.Mul(of(1, -far), of(1, -1)) })
	refused("Mul", func() (api.Dyadic, api.Errno) { return dyadic.Mul(of(1, -far), of(1, -far)) })
	fine("Mul by 0", func() (api.Dyadic, api.Errno) { return dyadic.Mul(two, of(0, far)) }, api.Dyadic{})
	fine("Mul there and back", func() (api.Dyadic, api.Errno) { return dyadic.Mul(of(1, -far), of(-1, far)) }, of(-1, 0))
	fine("Add of the least", func() (api.Dyadic, api.Errno) { return dyadic.Add(of(1, -far), of(1, -far)) }, of(1, -far+1))
}

// P8.3, R6: lengths as answers, just as long as may be, and longer.
func TestLongNumbers(t *testing.T) {
	const n = api.MaxBits
	reckon := func(what string, f func(a, b api.Dyadic) (api.Dyadic, api.Errno), a, b, wanted api.Dyadic) {
		t.Helper()
		got, e := f(a, b)
		want(t, what, got, e, wanted)
	}
	refused := func(what string, f func(a, b api.Dyadic) (api.Dyadic, api.Errno), a, b api.Dyadic) {
		t.Helper()
		got, e := f(a, b)
		wantErr(t, what, got, e, api.ErrBig)
	}
	full, one := above(ones(n), 0), of(1, 0)
	reckon("full and 1", dyadic.Add, full, one, of(1, n))
	reckon("full - full", dyadic.Sub, full, full, api.Dyadic{})
	refused("full and 1p1", dyadic.Add, full, of(1, 1))
	reckon("full - 1p1", dyadic.Sub, full, of(1, 1), above(sub(ones(n), 2), 0))
	reckon("2^(n-1) and 1", dyadic.Add, one, of(1, n-1), above(powerAnd(n-1, 1), 0))
	refused("2^n and 1", dyadic.Add, of(1, n), one)
	reckon("2^n - 1", dyadic.Sub, of(1, n), one, full)
	reckon("1 - 2^n", dyadic.Sub, one, of(1, n), minus(full))
	refused("2^(n+1) - 1", dyadic.Sub, of(1, n+1), one)
	refused("1 - 3 2^n", dyadic.Sub, one, of(3, n))
	refused("far apart", dyadic.Add, of(1, far), of(1, -far))
	refused("far apart", dyadic.Sub, of(1, -far), of(2, far))
	refused("Middle far apart", dyadic.Middle, of(1, -far), of(1, far))
	reckon("Middle of 2^n and -1", dyadic.Middle, of(1, n), of(-1, 0), above(ones(n), -1))
	reckon("thrice", dyadic.Mul, above(ones(n-2), 5), of(3, 5), above(sub(append(make(api.Nat, (n-2)/64), 3<<((n-2)%64)), 3), 10))
	refused("too much thrice", dyadic.Mul, above(ones(n-1), 5), of(-3, 5))
	refused("ahead of the exponent", dyadic.Mul, above(ones(n-1), far), of(3, far))
	reckon("as it is normal", dyadic.Mul, above(power(2*n), 1), above(power(n), -3*n), of(1, 1))
}

// sub is a - v.
func sub(a api.Nat, v uint64) api.Nat {
	d, e := nat.Sub(a, api.Nat{v})
	if e != api.OK {
		panic(e)
	}
	return d
}

// R6: numbers that are handed in may be longer than those that are answered.
func TestNumbersBeyondTheLimit(t *testing.T) {
	const n = 2*api.MaxBits + 7
	long := above(powerAnd(n, 1), 0)
	for name, f := range map[string]func(a api.Dyadic) (api.Dyadic, api.Errno){
		"Make":  func(a api.Dyadic) (api.Dyadic, api.Errno) { return dyadic.Make(a.Man, a.Exp) },
		"Neg":   dyadic.Neg,
		"Abs":   dyadic.Abs,
		"Scale": func(a api.Dyadic) (api.Dyadic, api.Errno) { return dyadic.Scale(a, far) },
		"Mul":   func(a api.Dyadic) (api.Dyadic, api.Errno) { return dyadic.Mul(a, of(1, far)) },
		"Add":   func(a api.Dyadic) (api.Dyadic, api.Errno) { return dyadic.Add(of(0, 0), a) },
		"Sub":   func(a api.Dyadic) (api.Dyadic, api.Errno) { return dyadic.Sub(of(1, -far), a) },
		"Max":   func(a api.Dyadic) (api.Dyadic, api.Errno) { return dyadic.Max(a, of(1, 0)) },
		"Sum":   func(a api.Dyadic) (api.Dyadic, api.Errno) { return dyadic.Sum(a, minus(a)) },
		"Twice": func(a api.Dyadic) (api.Dyadic, api.Errno) { return dyadic.Add(a, a) },
	} {
		got, e := f(long)
		wantErr(t, name, got, e, api.ErrBig)
	}
	got, e := dyadic.Sub(long, of(1, n))
	want(t, "what is left", got, e, of(1, 0))
	got, e = dyadic.Sub(above(power(n), 0), long)
	want(t, "what is left", got, e, of(-1, 0))
	got, e = dyadic.Middle(long, below(powerAnd(n, 7), 0))
	want(t, "the middle", got, e, of(-3, 0))
	got, e = dyadic.Sub(above(ones(n), 3), above(ones(n-1), 4))
	want(t, "the last bit", got, e, of(1, 3))
	got, e = dyadic.Min(long, of(1, 0))
	want(t, "the lesser one", got, e, of(1, 0))
	got, e = dyadic.Mul(long, of(0, 0))
	want(t, "by 0", got, e, api.Dyadic{})
	got, e = dyadic.Neg(above(power(n), 5))
	want(t, "in a long shape", got, e, of(-1, n+5))
	order, e := dyadic.Compare(long, above(powerAnd(n, 3), 0))
	wantInt(t, "long ones", order, e, -1)
	order, e = dyadic.Compare(long, above(power(n+9), -9))
	wantInt(t, "long ones", order, e, 1)
	if dyadic.Sign(minus(long)) != -1 {
		t.Error("Sign of a long one")
	}
}
