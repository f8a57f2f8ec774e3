package dyadic_test

import (
	"math"
	"slices"
	"testing"

	"surd/api"
	"surd/dyadic"
)

// list draws so many numbers.
func (m *mix) list(n int) []api.Dyadic {
	out := make([]api.Dyadic, n)
	for i := range out {
		out[i] = m.dyadic(1 + i%3)
	}
	return out
}

// P8.16: Sum, Dot and Value, by what they are made of.
func TestMany(t *testing.T) {
	reckon := must[api.Dyadic](t)
	m := mix(8)
	for n := range 30 {
		a, b, x := m.list(n), m.list(n), m.dyadic(1)
		var sum, dot, value api.Dyadic
		for i := range a {
			sum = reckon(dyadic.Add(sum, a[i]))
			dot = reckon(dyadic.Add(dot, reckon(dyadic.Mul(a[i], b[i]))))
			value = reckon(dyadic.Add(value, reckon(dyadic.Mul(a[i], reckon(dyadic.Pow(x, i))))))
		}
		got, e := dyadic.Sum(a...)
		want(t, "Sum", got, e, sum)
		got, e = dyadic.Dot(a, b)
		want(t, "Dot", got, e, dot)
		got, e = dyadic.Value(a, x)
		want(t, "Value", got, e, value)
	}
	for _, none := range [][]api.Dyadic{nil, {}} {
		got, e := dyadic.Sum(none...)
		want(t, "Sum of none", got, e, api.Dyadic{})
		got, e = dyadic.Dot(none, nil)
		want(t, "Dot of none", got, e, api.Dyadic{})
		got, e = dyadic.Value(none, of(7, -2))
		want(t, "Value of none", got, e, api.Dyadic{})
	}
}

// P8.17: no order is to be seen; Dot goes both ways; Values add up.
func TestLawsOfMany(t *testing.T) {
	reckon := must[api.Dyadic](t)
	m := mix(9)
	for n := 1; n < 30; n++ {
		a, b, x := m.list(n), m.list(n), m.dyadic(1)
		sum, dot := reckon(dyadic.Sum(a...)), reckon(dyadic.Dot(a, b))
		sums := make([]api.Dyadic, n)
		for i := range sums {
			sums[i] = reckon(dyadic.Add(a[i], b[i]))
		}
		value := reckon(dyadic.Add(reckon(dyadic.Value(a, x)), reckon(dyadic.Value(b, x))))
		want(t, "Value of sums", reckon(dyadic.Value(sums, x)), api.OK, value)
		want(t, "Dot, the other way round", reckon(dyadic.Dot(b, a)), api.OK, dot)
		turned := slices.Clone(a)
		slices.Reverse(turned)
		want(t, "Sum from the right", reckon(dyadic.Sum(turned...)), api.OK, sum)
		at := m.below(n)
		want(t, "Sum from the middle", reckon(dyadic.Sum(append(slices.Clone(a[at:]), a[:at]...)...)), api.OK, sum)
	}
}

// P8.16: the first error, though the numbers behind it might make it good.
func TestManyRefused(t *testing.T) {
	const n = api.MaxBits
	one, beyond := of(1, 0), of(1, far)
	list := func(l ...api.Dyadic) []api.Dyadic { return l }
	for _, c := range []struct {
		l    []api.Dyadic
		want api.Errno
	}{
		{list(of(1, n), one, of(-1, n)), api.ErrBig},
		{list(of(1, n), of(-1, n), one), api.OK},
		{list(beyond, beyond, minus(beyond)), api.ErrDyadicExp},
		{list(beyond, minus(beyond), one), api.OK},
		{list(of(2, far), of(-1, far), of(-1, far), one), api.ErrDyadicExp},
		{list(beyond, one, beyond, beyond), api.ErrBig},
		{list(of(1, n), one, of(1, far+1)), api.ErrDyadicExp},
		{list(above(powerAnd(n, 1), 0)), api.ErrBig},
	} {
		got, e := dyadic.Sum(c.l...)
		if c.want == api.OK {
			want(t, "Sum", got, e, one)
			continue
		}
		wantErr(t, "Sum", got, e, c.want)
	}
	far2, long, wrong := list(beyond, above(ones(n), 0)), list(of(1, 1), of(3, 0)), of(0, -far-1)
	got, e := dyadic.Dot(far2, long)
	wantErr(t, "Dot, the exponent first", got, e, api.ErrDyadicExp)
	slices.Reverse(far2)
	slices.Reverse(long)
	got, e = dyadic.Dot(far2, long)
	wantErr(t, "Dot, the bits first", got, e, api.ErrBig)
	got, e = dyadic.Dot(list(of(1, n), one), list(one, one))
	wantErr(t, "Dot's sum", got, e, api.ErrBig)
	got, e = dyadic.Dot(list(of(2, far), one), list(of(1, -1), of(0, 0)))
	want(t, "Dot of products that may be", got, e, beyond)
	for _, c := range [][2][]api.Dyadic{{list(one), nil}, {nil, list(one)}, {list(one, one, one), list(one, one)}, {long, list(beyond)}} {
		got, e = dyadic.Dot(c[0], c[1])
		wantErr(t, "Dot of unlike lists", got, e, api.ErrArg)
	}
	got, e = dyadic.Dot(list(one, wrong), list(one, one))
	wantErr(t, "Dot of what means nothing", got, e, api.ErrDyadicExp)
	got, e = dyadic.Dot(list(one, one), list(one, wrong))
	wantErr(t, "Dot with what means nothing", got, e, api.ErrDyadicExp)
}

// P8.16: Value's errors, and how many numbers there may be.
func TestValueRefused(t *testing.T) {
	const n = api.MaxBits
	one := of(1, 0)
	for _, x := range []api.Dyadic{{}, one, of(1, far+1), of(3, math.MinInt)} {
		c := make([]api.Dyadic, 1001)
		c[1000].Exp = math.MaxInt
		got, e := dyadic.Value(c, x)
		wantErr(t, "1001 numbers", got, e, api.ErrArg)
	}
	c := make([]api.Dyadic, 1000)
	for i := range c {
		c[i] = one
	}
	got, e := dyadic.Value(c, of(1, 1))
	want(t, "1000 numbers at 2", got, e, above(ones(1000), 0))
	got, e = dyadic.Value([]api.Dyadic{one, of(1, far)}, of(1, 1))
	wantErr(t, "an exponent", got, e, api.ErrDyadicExp)
	got, e = dyadic.Value([]api.Dyadic{of(-1, far), of(1, far), of(0, 0)}, one)
	want(t, "as it is", got, e, api.Dyadic{})
	got, e = dyadic.Value([]api.Dyadic{of(-1, n), one, of(1, n)}, one)
	wantErr(t, "a sum on the way", got, e, api.ErrBig)
	got, e = dyadic.Value([]api.Dyadic{one, above(ones(n), far)}, of(3, 1))
	wantErr(t, "a product on the way", got, e, api.ErrBig)
	got, e = dyadic.Value([]api.Dyadic{of(2, far)}, of(0, 0))
	wantErr(t, "the number itself", got, e, api.ErrDyadicExp)
	got, e = dyadic.Value([]api.Dyadic{of(7, 0), of(1, far), of(3, -far)}, of(0, 5))
	want(t, "at 0", got, e, of(7, 0))
}
