package span_test

import (
	"testing"

	"surd/api"
	"surd/dyadic"
	"surd/rounded"
	"surd/span"
)

// The chapter's example 2.
func TestExamplesOfQuo(t *testing.T) {
	got, e := span.Inverse(ints(3, 3), -2)
	want(t, "Inverse", got, e, from(of(1, -2), of(1, -1)))
	got, e = span.Quo(ints(1, 1), ints(-1, 1), 0)
	wantErr(t, "Quo", got, e, api.ErrSpanZero)
	got, e = span.Sqrt(ints(2, 4), 0)
	want(t, "Sqrt", got, e, ints(1, 2))
	got, e = span.Sqrt(ints(-1, 4), 0)
	wantErr(t, "Sqrt", got, e, api.ErrSpanRoot)
}

// upright is n / d with a denominator above 0.
func upright(n, d int) fraction {
	if d < 0 {
		return fraction{-n, -d}
	}
	return fraction{n, d}
}

// P10.5: quotients and inverses of spans of halves, by going through their
// numbers.
func TestQuotientsOfHalves(t *testing.T) {
	all := halves(5)
	for _, b := range all {
		y := halfSpan(b)
		if b[0] <= 0 && b[1] >= 0 {
			got, e := span.Inverse(y, 0)
			wantErr(t, "Inverse of what has 0", got, e, api.ErrSpanZero)
			got, e = span.Quo(ints(1, 2), y, 0)
			wantErr(t, "Quo by what has 0", got, e, api.ErrSpanZero)
			continue
		}
		inverses := pairs([2]int{}, b, func(_, y int) fraction { return upright(2, y) })
		for pos := -4; pos <= 3; pos++ {
			got, e := span.Inverse(y, pos)
			want(t, "Inverse", got, e, inverses.outward(pos))
		}
		for _, a := range all {
			quotients := pairs(a, b, upright)
			for pos := -4; pos <= 3; pos++ {
				got, e := span.Quo(halfSpan(a), y, pos)
				want(t, "Quo", got, e, quotients.outward(pos))
			}
		}
	}
}

// quotientEnds are the least and the greatest quotient, rounded: all pairs of
// ends are divided in both directions.
func quotientEnds(t *testing.T, a, b api.Span, pos int) api.Span {
	t.Helper()
	var down, up []api.Dyadic
	for _, x := range []api.Dyadic{a.Lo, a.Hi} {
		for _, y := range []api.Dyadic{b.Lo, b.Hi} {
			down = append(down, must[api.Dyadic](t)(rounded.Quo(x, y, pos, api.Down)))
			up = append(up, must[api.Dyadic](t)(rounded.Quo(x, y, pos, api.Up)))
		}
	}
	return from(hullOf(t, down...).Lo, hullOf(t, up...).Hi)
}

// P10.5: samples in all shapes.
func TestQuo(t *testing.T) {
	some := samples(t)
	for i, a := range some {
		for j := range 8 {
			b := some[(i+11*j+1)%len(some)]
			for _, pos := range places() {
				got, e := span.Quo(a, b, pos)
				inverse, f := span.Inverse(b, pos)
				if has(t, b, api.Dyadic{}) {
					wantErr(t, "Quo", got, e, api.ErrSpanZero)
					wantErr(t, "Inverse", inverse, f, api.ErrSpanZero)
					continue
				}
				want(t, "Quo", got, e, quotientEnds(t, a, b, pos))
				want(t, "Inverse", inverse, f, quotientEnds(t, ints(1, 1), b, pos))
			}
		}
	}
}

// P10.5: far away, and as many bits as may be: ErrBig looks at the number in
// steps, of the ends that are answered.
func TestQuotientsAtTheLimit(t *testing.T) {
	const n = api.MaxBits
	one, high, low := of(1, 0), of(1, far), of(1, -far)
	for _, c := range []struct {
		what string
		a, b api.Span
		pos  int
		want api.Errno
		is   api.Span
	}{
		{"as many bits as may be", only(one), only(one), 1 - n, api.OK, only(one)},
		{"one more", only(one), only(one), -n, api.ErrBig, api.Span{}},
		{"one more of Hi", ints(0, 1), only(one), -n, api.ErrBig, api.Span{}},
		{"one more of Lo", ints(-1, 0), only(one), -n, api.ErrBig, api.Span{}},
		{"0", ints(0, 0), from(low, high), -far, api.OK, api.Span{}},
		{"a little", only(low), from(one, high), far, api.OK, from(of(0, 0), high)},
		{"a little below", only(low), from(minus(high), of(-1, 0)), far, api.OK, from(minus(high), of(0, 0))},
		{"much", only(high), from(low, one), far, api.ErrBig, api.Span{}},
		{"beyond", only(of(3, far)), only(of(3, -1)), far, api.ErrDyadicExp, api.Span{}},
		{"Lo beyond", from(of(-3, far), one), ints(2, 2), far, api.ErrDyadicExp, api.Span{}},
		{"Hi beyond", from(one, of(3, far)), ints(2, 2), far, api.ErrDyadicExp, api.Span{}},
		{"a quotient beyond that is no end", from(of(2, far), of(3, far)), ints(1, 2), far, api.OK, from(high, of(3, far))},
		{"a quotient beyond that is no end", from(of(-3, far), of(-2, far)), ints(1, 2), far, api.OK, from(of(-3, far), minus(high))},
		{"Lo beyond, Hi long", from(of(-1, far+1-n), high), only(of(1, -n)), far - 10, api.ErrBig, api.Span{}},
		{"Hi beyond, Lo long", from(minus(high), of(1, far+1-n)), only(of(1, -n)), far - 10, api.ErrBig, api.Span{}},
		{"a long one by itself", only(long()), only(minus(long())), -4, api.OK, ints(-1, -1)},
		{"1 by a long one", only(one), only(long()), 0, api.OK, ints(0, 1)},
	} {
		got, e := span.Quo(c.a, c.b, c.pos)
		if c.want != api.OK {
			wantErr(t, c.what, got, e, c.want)
			continue
		}
		want(t, c.what, got, e, c.is)
	}
	got, e := span.Inverse(only(one), 1-n)
	want(t, "an inverse of as many bits as may be", got, e, only(one))
	got, e = span.Inverse(from(one, high), -n)
	wantErr(t, "an inverse of one more", got, e, api.ErrBig)
	got, e = span.Inverse(from(low, high), far)
	want(t, "inverses far away", got, e, from(of(0, 0), high))
	got, e = span.Inverse(from(minus(high), minus(low)), far)
	want(t, "inverses far away, below 0", got, e, from(minus(high), of(0, 0)))
	got, e = span.Inverse(from(low, high), far-2)
	want(t, "inverses far away", got, e, from(of(0, 0), high))
	got, e = span.Inverse(only(of(3, -far)), far-1)
	want(t, "a third far away", got, e, from(of(0, 0), of(1, far-1)))
}

// rootSteps is the root of n / 2 in steps of 2^pos, by squares.
func rootSteps(n, pos int, up bool) int {
	// The square of so many steps is s s 4^pos; it is held against n / 2.
	s, num, den := 0, n<<max(-2*pos, 0), 2<<max(2*pos, 0)
	for (s+1)*(s+1)*den <= num {
		s++
	}
	if up && s*s*den != num {
		s++
	}
	return s
}

// P10.6: roots of spans of halves, by squares.
func TestRootsOfHalves(t *testing.T) {
	for _, a := range halves(30) {
		for pos := -3; pos <= 3; pos++ {
			got, e := span.Sqrt(halfSpan(a), pos)
			if a[0] < 0 {
				wantErr(t, "Sqrt", got, e, api.ErrSpanRoot)
				continue
			}
			want(t, "Sqrt", got, e, from(of(rootSteps(a[0], pos, false), pos), of(rootSteps(a[1], pos, true), pos)))
		}
	}
}

// P10.6: samples: the ends' squares lie outward of the numbers, and those of
// the next steps do not.
func TestSqrt(t *testing.T) {
	reckon := must[api.Dyadic](t)
	for _, a := range samples(t) {
		for _, pos := range places() {
			got, e := span.Sqrt(a, pos)
			if dyadic.Sign(a.Lo) < 0 {
				wantErr(t, "Sqrt", got, e, api.ErrSpanRoot)
				continue
			}
			want(t, "Sqrt", got, e, from(reckon(rounded.Sqrt(a.Lo, pos, api.Down)), reckon(rounded.Sqrt(a.Hi, pos, api.Up))))
			below := reckon(dyadic.Add(got.Lo, of(1, pos)))
			if compare(t, reckon(dyadic.Mul(got.Lo, got.Lo)), a.Lo) > 0 || compare(t, reckon(dyadic.Mul(below, below)), a.Lo) <= 0 {
				t.Errorf("the lower root of %v at %d", short(a), pos)
			}
			above := reckon(dyadic.Sub(got.Hi, of(1, pos)))
			if compare(t, reckon(dyadic.Mul(got.Hi, got.Hi)), a.Hi) < 0 || dyadic.Sign(above) >= 0 && compare(t, reckon(dyadic.Mul(above, above)), a.Hi) >= 0 {
				t.Errorf("the upper root of %v at %d", short(a), pos)
			}
		}
	}
}

// P10.6: far away, and as many bits as may be.
func TestRootsAtTheLimit(t *testing.T) {
	const n = api.MaxBits
	got, e := span.Sqrt(ints(0, 4), 2-n)
	want(t, "as many bits as may be", got, e, ints(0, 2))
	got, e = span.Sqrt(ints(0, 4), 1-n)
	wantErr(t, "one more", got, e, api.ErrBig)
	got, e = span.Sqrt(from(of(1, -far), of(1, far)), far/2)
	want(t, "far away", got, e, from(of(0, 0), of(1, far/2)))
	got, e = span.Sqrt(ints(0, 7), far)
	want(t, "at the top", got, e, from(of(0, 0), of(1, far)))
	got, e = span.Sqrt(only(above(powerAnd(n, 1), -n)), -9)
	want(t, "a long one", got, e, from(of(1, 0), of(513, -9)))
	got, e = span.Sqrt(only(minus(long())), 0)
	wantErr(t, "a long one below 0", got, e, api.ErrSpanRoot)
	got, e = span.Sqrt(from(below(api.Nat{0, 0}, 7), of(9, 0)), 0)
	want(t, "from 0 with a sign", got, e, ints(0, 3))
}
