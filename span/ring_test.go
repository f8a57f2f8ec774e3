package span_test

import (
	"math"
	"testing"

	"surd/api"
	"surd/dyadic"
	"surd/span"
)

// The chapter's example 1.
func TestExamplesOfRing(t *testing.T) {
	got, e := span.Add(ints(1, 2), only(of(3, -1)), 0)
	want(t, "Add", got, e, ints(2, 4))
	got, e = span.Mul(ints(-1, 2), ints(3, 5), 0)
	want(t, "Mul", got, e, ints(-5, 10))
	got, e = span.Square(ints(-1, 2), 0)
	want(t, "Square", got, e, ints(0, 4))
	got, e = span.Pow(ints(-2, 1), 3, 0)
	want(t, "Pow 3", got, e, ints(-8, 1))
	got, e = span.Pow(ints(-2, 1), 0, 0)
	want(t, "Pow 0", got, e, ints(1, 1))
}

// P10.4: sums, differences and products of spans of halves, by going through
// their numbers.
func TestRingOfHalves(t *testing.T) {
	all := halves(4)
	for _, a := range all {
		for _, b := range all {
			sums := pairs(a, b, func(x, y int) fraction { return fraction{x + y, 2} })
			differences := pairs(a, b, func(x, y int) fraction { return fraction{x - y, 2} })
			products := pairs(a, b, func(x, y int) fraction { return fraction{x * y, 4} })
			for pos := -3; pos <= 3; pos++ {
				got, e := span.Add(halfSpan(a), halfSpan(b), pos)
				want(t, "Add", got, e, sums.outward(pos))
				got, e = span.Sub(halfSpan(a), halfSpan(b), pos)
				want(t, "Sub", got, e, differences.outward(pos))
				got, e = span.Mul(halfSpan(a), halfSpan(b), pos)
				want(t, "Mul", got, e, products.outward(pos))
			}
		}
	}
}

// P10.4: squares and powers of spans of halves likewise.
func TestPowersOfHalves(t *testing.T) {
	for _, a := range halves(5) {
		for n := range 6 {
			powers := pairs(a, [2]int{}, func(x, _ int) fraction {
				made := fraction{1, 1}
				for range n {
					made = fraction{made.n * x, made.d * 2}
				}
				return made
			})
			for pos := -7; pos <= 4; pos++ {
				got, e := span.Pow(halfSpan(a), n, pos)
				want(t, "Pow", got, e, powers.outward(pos))
				if n == 2 {
					got, e = span.Square(halfSpan(a), pos)
					want(t, "Square", got, e, powers.outward(pos))
				}
			}
		}
	}
}

// P10.4: samples in all shapes, from all pairs of ends.
func TestRing(t *testing.T) {
	reckon := must[api.Dyadic](t)
	some := samples(t)
	for i, a := range some {
		for j := range 8 {
			b := some[(i+11*j)%len(some)]
			sums := hullOf(t, reckon(dyadic.Add(a.Lo, b.Lo)), reckon(dyadic.Add(a.Hi, b.Hi)))
			differences := hullOf(t, reckon(dyadic.Sub(a.Lo, b.Hi)), reckon(dyadic.Sub(a.Hi, b.Lo)))
			products := hullOf(t, reckon(dyadic.Mul(a.Lo, b.Lo)), reckon(dyadic.Mul(a.Lo, b.Hi)), reckon(dyadic.Mul(a.Hi, b.Lo)), reckon(dyadic.Mul(a.Hi, b.Hi)))
			for _, pos := range places() {
				got, e := span.Add(a, b, pos)
				want(t, "Add", got, e, outward(t, sums, pos))
				got, e = span.Sub(a, b, pos)
				want(t, "Sub", got, e, outward(t, differences, pos))
				got, e = span.Mul(a, b, pos)
				want(t, "Mul", got, e, outward(t, products, pos))
			}
		}
	}
}

// P10.4: powers of samples, by products of the ends.
func TestPow(t *testing.T) {
	reckon := must[api.Dyadic](t)
	for i, a := range samples(t) {
		lo, hi := of(1, 0), of(1, 0)
		for n := range 5 {
			ends := []api.Dyadic{lo, hi}
			if n > 0 && n%2 == 0 && has(t, a, api.Dyadic{}) {
				ends = append(ends, api.Dyadic{})
			}
			for _, pos := range places() {
				got, e := span.Pow(a, n, pos)
				want(t, "Pow", got, e, outward(t, hullOf(t, ends...), pos))
				if n == 2 {
					got, e = span.Square(a, pos)
					want(t, "Square", got, e, outward(t, hullOf(t, ends...), pos))
				}
			}
			lo, hi = reckon(dyadic.Mul(lo, a.Lo)), reckon(dyadic.Mul(hi, a.Hi))
		}
		if i%20 == 0 {
			got, e := span.Pow(a, 1000, -40)
			wanted := hullOf(t, reckon(dyadic.Pow(a.Lo, 1000)), reckon(dyadic.Pow(a.Hi, 1000)))
			if has(t, a, api.Dyadic{}) {
				wanted.Lo = api.Dyadic{}
			}
			want(t, "Pow 1000", got, e, outward(t, wanted, -40))
		}
	}
}

// P10.4: exponents that may not be, ahead of the position and behind the span.
func TestPowRefused(t *testing.T) {
	for _, n := range []int{-1, 1001, math.MinInt, math.MaxInt} {
		got, e := span.Pow(ints(0, 1), n, 0)
		wantErr(t, "no exponent", got, e, api.ErrArg)
		got, e = span.Pow(ints(1, 0), n, far+1)
		wantErr(t, "a span that is none", got, e, api.ErrSpanOrder)
	}
	got, e := span.Pow(only(long()), 0, 3)
	want(t, "the 0th power of a long one", got, e, ints(0, 8))
	got, e = span.Pow(only(beyond()), 0, 0)
	want(t, "the 0th power of one far off", got, e, ints(1, 1))
	got, e = span.Pow(ints(0, 0), 0, -9)
	want(t, "the 0th power of 0", got, e, ints(1, 1))
}

// refusals are calls of which a number on the way is refused, whatever the
// answer would be.
func refusals() []struct {
	what string
	call func(pos int) (api.Span, api.Errno)
	want api.Errno
} {
	const n = api.MaxBits
	one, high, low := of(1, 0), of(1, far), of(1, -far)
	type row = struct {
		what string
		call func(pos int) (api.Span, api.Errno)
		want api.Errno
	}
	add := func(what string, a, b api.Span, want api.Errno) row {
		return row{what, func(pos int) (api.Span, api.Errno) { return span.Add(a, b, pos) }, want}
	}
	sub := func(what string, a, b api.Span, want api.Errno) row {
		return row{what, func(pos int) (api.Span, api.Errno) { return span.Sub(a, b, pos) }, want}
	}
	mul := func(what string, a, b api.Span, want api.Errno) row {
		return row{what, func(pos int) (api.Span, api.Errno) { return span.Mul(a, b, pos) }, want}
	}
	pow := func(what string, a api.Span, k int, want api.Errno) row {
		return row{what, func(pos int) (api.Span, api.Errno) { return span.Pow(a, k, pos) }, want}
	}
	half := above(powerAnd(n/2, 1), 0)
	return []row{
		add("the upper sum", from(one, of(1, n)), ints(1, 1), api.ErrBig),
		add("the lower sum", from(of(-1, n+1), one), ints(1, 1), api.ErrBig),
		add("the sums, beyond", only(high), only(high), api.ErrDyadicExp),
		add("the lower sum, beyond", from(minus(high), one), from(minus(high), one), api.ErrDyadicExp),
		add("the lower one beyond, the upper one long", from(minus(high), of(1, n)), from(minus(high), one), api.ErrBig),
		add("the upper one beyond, the lower one long", from(of(-1, n+1), high), from(one, high), api.ErrBig),
		sub("the upper difference", from(one, of(1, n+1)), ints(1, 1), api.ErrBig),
		sub("the lower difference", from(of(-1, n), one), ints(1, 1), api.ErrBig),
		sub("the lower one beyond, the upper one long", from(minus(high), of(1, n+1)), from(one, high), api.ErrBig),
		sub("both beyond", from(minus(high), high), from(minus(high), high), api.ErrDyadicExp),
		mul("one product that is no end", from(of(-1, 0), half), from(minus(half), of(1, n)), api.ErrBig),
		mul("one product beyond", from(low, one), from(of(1, -1), one), api.ErrDyadicExp),
		mul("one beyond, one long", from(low, half), from(of(1, -1), half), api.ErrBig),
		mul("all beyond", only(high), only(of(1, 1)), api.ErrDyadicExp),
		pow("a power", from(one, half), 2, api.ErrBig),
		pow("a power of what is below 0", from(minus(half), one), 2, api.ErrBig),
		pow("a power that is no end", from(minus(half), of(1, n)), 2, api.ErrBig),
		pow("a power that is no end", from(minus(of(1, n)), half), 4, api.ErrBig),
		pow("an odd power", from(minus(half), one), 3, api.ErrBig),
		pow("a power beyond", from(low, one), 2, api.ErrDyadicExp),
		pow("a power beyond that is no end", from(minus(low), of(2, 0)), 2, api.ErrDyadicExp),
		pow("one beyond, one long", from(minus(half), low), 2, api.ErrBig),
		pow("one beyond, one long", from(minus(low), half), 2, api.ErrBig),
		pow("both beyond", from(minus(high), high), 1000, api.ErrDyadicExp),
		pow("the first power of a long one", only(long()), 1, api.ErrBig),
		pow("the first power of one beyond", only(beyond()), 1, api.ErrDyadicExp),
		{"a square", func(pos int) (api.Span, api.Errno) { return span.Square(from(minus(half), one), pos) }, api.ErrBig},
		{"a square beyond", func(pos int) (api.Span, api.Errno) { return span.Square(from(low, one), pos) }, api.ErrDyadicExp},
	}
}

// P10.4: what is reckoned of the ends is refused ahead of the rounding.
func TestRingRefused(t *testing.T) {
	for _, c := range refusals() {
		for _, pos := range []int{-far, 0, api.MaxBits + 9, far} {
			got, e := c.call(pos)
			wantErr(t, c.what, got, e, c.want)
		}
		for _, pos := range noPositions() {
			got, e := c.call(pos)
			wantErr(t, c.what+", at no position", got, e, api.ErrArg)
		}
	}
}

// P10.4: what is rounded can be refused too; long numbers that make short ones
// are none.
func TestRingAtTheLimit(t *testing.T) {
	const n = api.MaxBits
	l := long()
	got, e := span.Add(only(l), only(minus(l)), 0)
	want(t, "a long one and its opposite", got, e, api.Span{})
	got, e = span.Sub(only(l), only(of(1, 0)), -5)
	want(t, "a long one less 1", got, e, only(of(1, n)))
	got, e = span.Mul(only(l), ints(0, 0), -5)
	want(t, "a long one times 0", got, e, api.Span{})
	got, e = span.Mul(only(beyond()), only(of(1, -1)), -5)
	want(t, "one beyond, and back", got, e, only(of(1, far)))
	got, e = span.Add(ints(1, 1), ints(1, 1), far)
	want(t, "at the top", got, e, from(of(0, 0), of(1, far)))
	got, e = span.Add(only(of(1, far)), only(of(1, far-1)), far)
	wantErr(t, "rounded beyond", got, e, api.ErrDyadicExp)
	got, e = span.Mul(only(of(-3, far-1)), ints(1, 1), far)
	wantErr(t, "rounded beyond, below 0", got, e, api.ErrDyadicExp)
	got, e = span.Pow(only(of(3, far/2)), 2, far+1)
	wantErr(t, "no position", got, e, api.ErrArg)
	got, e = span.Pow(from(of(5, far/2-2), of(13, far/2-3)), 2, far)
	want(t, "squares at the top", got, e, from(of(1, far), of(3, far)))
	got, e = span.Pow(from(of(5, far/2-2), of(11, far/2-3)), 2, far)
	wantErr(t, "a square rounded beyond", got, e, api.ErrDyadicExp)
}
