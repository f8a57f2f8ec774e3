package span_test

import (
	"math"
	"testing"

	"surd/api"
	"surd/dyadic"
	"surd/ratio"
	"surd/span"
)

// The chapter's examples 3 and 4, as far as they make spans.
func TestExamplesOfSets(t *testing.T) {
	got, e := span.Abs(ints(-3, 1))
	want(t, "Abs", got, e, ints(0, 3))
	got, e = span.Min(ints(0, 5), ints(1, 2))
	want(t, "Min", got, e, ints(0, 2))
	got, e = span.Meet(ints(0, 1), ints(2, 3))
	wantErr(t, "Meet", got, e, api.ErrSpanApart)
	got, e = span.Hull(ints(0, 1), ints(2, 3))
	want(t, "Hull", got, e, ints(0, 3))
	got, e = span.Of(over(1, 3), -1)
	want(t, "Of", got, e, from(of(0, 0), of(1, -1)))
	got, e = span.Make(of(2, 0), of(1, 0))
	wantErr(t, "Make", got, e, api.ErrSpanOrder)
}

// P10.1: Make and Point, in all shapes.
func TestMake(t *testing.T) {
	for _, a := range samples(t) {
		got, e := span.Make(a.Lo, a.Hi)
		want(t, "Make", got, e, a)
		got, e = span.Make(a.Hi, a.Lo)
		if compare(t, a.Lo, a.Hi) < 0 {
			wantErr(t, "Make, the other way round", got, e, api.ErrSpanOrder)
		} else {
			want(t, "Make of the same", got, e, a)
		}
		got, e = span.Point(a.Hi)
		want(t, "Point", got, e, only(a.Hi))
	}
	got, e := span.Make(of(1, -far), of(1, far))
	want(t, "the farthest ends", got, e, from(of(1, -far), of(1, far)))
}

// P10.1: what Make and Point refuse, and which of two ends tells it.
func TestMakeRefused(t *testing.T) {
	wrong, tooLong, tooFar := of(0, far+1), long(), beyond()
	for _, c := range []struct {
		lo, hi api.Dyadic
		want   api.Errno
	}{
		{wrong, of(1, 0), api.ErrDyadicExp}, {of(1, 0), of(1, -far-1), api.ErrDyadicExp}, {of(1, math.MinInt), of(1, math.MaxInt), api.ErrDyadicExp},
		{tooFar, of(1, 0), api.ErrSpanOrder}, {tooLong, of(1, 0), api.ErrSpanOrder},
		{of(1, 0), tooLong, api.ErrBig}, {minus(tooLong), of(1, 0), api.ErrBig}, {tooLong, tooFar, api.ErrBig}, {minus(tooFar), tooLong, api.ErrBig},
		{of(1, 0), tooFar, api.ErrDyadicExp}, {minus(tooFar), of(1, 0), api.ErrDyadicExp}, {minus(tooFar), tooFar, api.ErrDyadicExp},
	} {
		got, e := span.Make(c.lo, c.hi)
		wantErr(t, "Make", got, e, c.want)
	}
	for d, wanted := range map[*api.Dyadic]api.Errno{&wrong: api.ErrDyadicExp, &tooLong: api.ErrBig, &tooFar: api.ErrDyadicExp} {
		got, e := span.Point(*d)
		wantErr(t, "Point", got, e, wanted)
	}
}

// P10.1: rationals, counted out and drawn.
func TestOf(t *testing.T) {
	for n := -20; n <= 20; n++ {
		for d := 1; d <= 9; d++ {
			for pos := -4; pos <= 4; pos++ {
				got, e := span.Of(over(n, d), pos)
				want(t, "Of", got, e, boundsOf(fraction{n, d}).outward(pos))
			}
		}
	}
	m := mix(2)
	for i := range 100 {
		r := api.Ratio{Num: m.dyadic(1 + i%4).Man, Den: append(m.nat(i%3), 1+m.next()>>1, 0)}
		for _, pos := range places() {
			got, e := span.Of(r, pos)
			down, up := must[api.Whole](t)(ratio.At(r, -pos, api.Down)), must[api.Whole](t)(ratio.At(r, -pos, api.Up))
			want(t, "Of", got, e, from(api.Dyadic{Man: down, Exp: pos}, api.Dyadic{Man: up, Exp: pos}))
		}
	}
	got, e := span.Of(over(1, 1), far)
	want(t, "1 at the top", got, e, from(of(0, 0), of(1, far)))
	got, e = span.Of(over(-1, 3), far)
	want(t, "-1/3 at the top", got, e, from(of(-1, far), of(0, 0)))
	got, e = span.Of(over(0, 3), -far)
	want(t, "0 at the bottom", got, e, api.Span{})
}

// P10.1: what Of refuses. ErrBig looks at the number in steps.
func TestOfRefused(t *testing.T) {
	const n = api.MaxBits
	for _, pos := range []int{0, far + 1, math.MinInt} {
		got, e := span.Of(api.Ratio{Num: over(7, 1).Num, Den: api.Nat{0, 0}}, pos)
		wantErr(t, "Of what means nothing", got, e, api.ErrRatioZero)
	}
	for _, pos := range []int{far + 1, -far - 1, math.MaxInt, math.MinInt} {
		got, e := span.Of(over(1, 3), pos)
		wantErr(t, "Of at no position", got, e, api.ErrArg)
	}
	got, e := span.Of(over(1, 1), 1-n)
	want(t, "1 in as many bits as may be", got, e, ints(1, 1))
	got, e = span.Of(over(1, 1), -n)
	wantErr(t, "1 in one more", got, e, api.ErrBig)
	got, e = span.Of(over(1, 3), -far)
	wantErr(t, "1/3 at the bottom", got, e, api.ErrBig)
	// Up alone has a bit too many here, and then Down alone.
	full := api.Ratio{Num: api.Whole{Abs: append(make(api.Nat, n/64), 1)}, Den: api.Nat{1}}
	for i := range n / 64 {
		full.Num.Abs[i] = ^uint64(0)
	}
	got, e = span.Of(full, 1)
	wantErr(t, "2^n - 1/2", got, e, api.ErrBig)
	full.Num.Neg = true
	got, e = span.Of(full, 1)
	wantErr(t, "1/2 - 2^n", got, e, api.ErrBig)
}

// P10.2: Outward, by chapter 8's rounding, and counted out.
func TestOutward(t *testing.T) {
	for _, a := range samples(t) {
		for _, pos := range places() {
			got, e := span.Outward(a, pos)
			want(t, "Outward", got, e, outward(t, a, pos))
		}
	}
	for _, a := range halves(9) {
		for pos := -3; pos <= 5; pos++ {
			got, e := span.Outward(halfSpan(a), pos)
			want(t, "Outward", got, e, bounds{fraction{a[0], 2}, fraction{a[1], 2}}.outward(pos))
		}
	}
}

// P10.2, R6: Outward far away; ErrBig looks at the normal ends.
func TestOutwardFarAway(t *testing.T) {
	got, e := span.Outward(ints(-3, 5), -far)
	want(t, "at the bottom", got, e, ints(-3, 5))
	got, e = span.Outward(ints(-3, 5), far)
	want(t, "at the top", got, e, from(of(-1, far), of(1, far)))
	got, e = span.Outward(from(of(1, far), of(3, far-1)), far)
	wantErr(t, "beyond the top", got, e, api.ErrDyadicExp)
	got, e = span.Outward(from(of(-3, far-1), of(-1, far)), far)
	wantErr(t, "beyond the top, below 0", got, e, api.ErrDyadicExp)
	got, e = span.Outward(from(of(-3, far-1), long()), 0)
	wantErr(t, "a long end", got, e, api.ErrBig)
	got, e = span.Outward(from(of(-3, far-1), long()), far)
	wantErr(t, "a long end that is rounded away", got, e, api.ErrDyadicExp)
	got, e = span.Outward(from(minus(long()), long()), 1)
	const n = api.MaxBits
	want(t, "long ends, cut", got, e, from(below(powerAnd(n-1, 1), 1), above(powerAnd(n-1, 1), 1)))
	got, e = span.Outward(from(of(-3, far-1), above(powerAnd(n+1, 3), -1)), -1)
	wantErr(t, "ErrBig of Hi alone", got, e, api.ErrBig)
	got, e = span.Outward(from(of(-2, far), long()), 0)
	wantErr(t, "ErrBig of Hi ahead of ErrDyadicExp of Lo", got, e, api.ErrBig)
	got, e = span.Outward(from(minus(long()), of(2, far)), 0)
	wantErr(t, "ErrBig of Lo ahead of ErrDyadicExp of Hi", got, e, api.ErrBig)
}

// P10.2: Scale.
func TestScale(t *testing.T) {
	for _, a := range samples(t) {
		for _, k := range places() {
			got, e := span.Scale(a, k)
			moved := a
			moved.Lo.Exp += k
			moved.Hi.Exp += k
			want(t, "Scale", got, e, moved)
		}
	}
	got, e := span.Scale(from(of(-1, -far), of(0, 0)), 2*far)
	wantErr(t, "a shift that may not be", got, e, api.ErrArg)
	got, e = span.Scale(from(of(-1, -far), of(1, 0)), far)
	want(t, "a far shift", got, e, from(of(-1, 0), of(1, far)))
	got, e = span.Scale(from(of(-1, -far), of(0, 0)), -1)
	wantErr(t, "Lo beyond", got, e, api.ErrDyadicExp)
	got, e = span.Scale(from(of(0, 0), of(4, 0)), far)
	wantErr(t, "Hi beyond", got, e, api.ErrDyadicExp)
	got, e = span.Scale(from(beyond(), beyond()), -1)
	want(t, "back from beyond", got, e, only(of(1, far)))
	got, e = span.Scale(from(of(-1, far), long()), 1)
	wantErr(t, "ErrBig first", got, e, api.ErrBig)
	got, e = span.Scale(api.Span{Lo: of(0, far), Hi: of(0, far)}, far)
	want(t, "0", got, e, api.Span{})
}

// least and greatest are those of two.
func least(t *testing.T, a, b api.Dyadic) api.Dyadic { return must[api.Dyadic](t)(dyadic.Min(a, b)) }

func greatest(t *testing.T, a, b api.Dyadic) api.Dyadic {
	return must[api.Dyadic](t)(dyadic.Max(a, b))
}

// P10.3: Neg and Abs, counted out and by their ends.
func TestNegAndAbs(t *testing.T) {
	for _, a := range halves(7) {
		got, e := span.Neg(halfSpan(a))
		want(t, "Neg", got, e, halfSpan([2]int{-a[1], -a[0]}))
		sizes := pairs(a, [2]int{}, func(x, _ int) fraction { return fraction{max(x, -x), 2} })
		got, e = span.Abs(halfSpan(a))
		want(t, "Abs", got, e, sizes.outward(-1))
	}
	for _, a := range samples(t) {
		got, e := span.Neg(a)
		want(t, "Neg", got, e, from(minus(a.Hi), minus(a.Lo)))
		wanted := a
		switch {
		case dyadic.Sign(a.Hi) <= 0:
			wanted = from(minus(a.Hi), minus(a.Lo))
		case dyadic.Sign(a.Lo) < 0:
			wanted = from(api.Dyadic{}, greatest(t, minus(a.Lo), a.Hi))
		}
		got, e = span.Abs(a)
		want(t, "Abs", got, e, wanted)
	}
}

// P10.3: Min, Max, Hull and Meet of spans of ints, by going through them.
func TestSetsOfInts(t *testing.T) {
	all := halves(3)
	for _, a := range all {
		for _, b := range all {
			x, y := halfSpan(a), halfSpan(b)
			got, e := span.Min(x, y)
			want(t, "Min", got, e, pairs(a, b, func(x, y int) fraction { return fraction{min(x, y), 2} }).outward(-1))
			got, e = span.Max(x, y)
			want(t, "Max", got, e, pairs(a, b, func(x, y int) fraction { return fraction{max(x, y), 2} }).outward(-1))
			got, e = span.Hull(x, y)
			want(t, "Hull", got, e, halfSpan([2]int{min(a[0], b[0]), max(a[1], b[1])}))
			var common []int
			for n := a[0]; n <= a[1]; n++ {
				if b[0] <= n && n <= b[1] {
					common = append(common, n)
				}
			}
			got, e = span.Meet(x, y)
			if common == nil {
				wantErr(t, "Meet", got, e, api.ErrSpanApart)
				continue
			}
			want(t, "Meet", got, e, halfSpan([2]int{common[0], common[len(common)-1]}))
		}
	}
}

// P10.3: the same of samples, by their ends.
func TestSets(t *testing.T) {
	some := samples(t)
	for i, a := range some {
		for j := range 12 {
			b := some[(i+7*j)%len(some)]
			got, e := span.Min(a, b)
			want(t, "Min", got, e, from(least(t, a.Lo, b.Lo), least(t, a.Hi, b.Hi)))
			got, e = span.Max(a, b)
			want(t, "Max", got, e, from(greatest(t, a.Lo, b.Lo), greatest(t, a.Hi, b.Hi)))
			got, e = span.Hull(a, b)
			want(t, "Hull", got, e, from(least(t, a.Lo, b.Lo), greatest(t, a.Hi, b.Hi)))
			got, e = span.Meet(a, b)
			lo, hi := greatest(t, a.Lo, b.Lo), least(t, a.Hi, b.Hi)
			if compare(t, lo, hi) > 0 {
				wantErr(t, "Meet", got, e, api.ErrSpanApart)
				continue
			}
			want(t, "Meet", got, e, from(lo, hi))
		}
	}
}

// P10.3: only the ends that are answered can be too long or too far; and what
// has nothing in common says so, however long it is.
func TestSetsAtTheLimit(t *testing.T) {
	l, nought, one := long(), api.Dyadic{}, of(1, 0)
	most := of(1, 2*api.MaxBits)
	for _, c := range []struct {
		what string
		call func() (api.Span, api.Errno)
		want api.Errno
		is   api.Span
	}{
		{"Neg", func() (api.Span, api.Errno) { return span.Neg(from(one, l)) }, api.ErrBig, api.Span{}},
		{"Neg, beyond", func() (api.Span, api.Errno) { return span.Neg(from(minus(beyond()), one)) }, api.ErrDyadicExp, api.Span{}},
		{"Neg, both", func() (api.Span, api.Errno) { return span.Neg(from(l, beyond())) }, api.ErrBig, api.Span{}},
		{"Abs", func() (api.Span, api.Errno) { return span.Abs(from(minus(l), one)) }, api.ErrBig, api.Span{}},
		{"Abs without the long end", func() (api.Span, api.Errno) { return span.Abs(from(minus(l), most)) }, api.OK, from(nought, most)},
		{"Abs, beyond", func() (api.Span, api.Errno) { return span.Abs(from(minus(beyond()), l)) }, api.ErrDyadicExp, api.Span{}},
		{"Min", func() (api.Span, api.Errno) { return span.Min(from(one, l), ints(0, 3)) }, api.OK, ints(0, 3)},
		{"Min", func() (api.Span, api.Errno) { return span.Min(from(minus(l), one), ints(0, 3)) }, api.ErrBig, api.Span{}},
		{"Max", func() (api.Span, api.Errno) { return span.Max(from(minus(l), one), ints(0, 3)) }, api.OK, ints(0, 3)},
		{"Max", func() (api.Span, api.Errno) { return span.Max(from(minus(l), beyond()), only(l)) }, api.ErrBig, api.Span{}},
		{"Hull", func() (api.Span, api.Errno) { return span.Hull(from(one, l), from(nought, most)) }, api.OK, from(nought, most)},
		{"Hull", func() (api.Span, api.Errno) { return span.Hull(from(minus(beyond()), nought), only(l)) }, api.ErrBig, api.Span{}},
		{"Hull", func() (api.Span, api.Errno) { return span.Hull(from(minus(beyond()), l), from(nought, most)) }, api.ErrDyadicExp, api.Span{}},
		{"Meet", func() (api.Span, api.Errno) { return span.Meet(from(minus(l), beyond()), ints(-2, 5)) }, api.OK, ints(-2, 5)},
		{"Meet", func() (api.Span, api.Errno) { return span.Meet(from(l, beyond()), from(one, beyond())) }, api.ErrBig, api.Span{}},
		{"Meet", func() (api.Span, api.Errno) { return span.Meet(from(one, beyond()), from(nought, beyond())) }, api.ErrDyadicExp, api.Span{}},
		{"Meet, apart", func() (api.Span, api.Errno) { return span.Meet(only(l), ints(0, 1)) }, api.ErrSpanApart, api.Span{}},
		{"Meet, apart", func() (api.Span, api.Errno) { return span.Meet(only(minus(beyond())), only(l)) }, api.ErrSpanApart, api.Span{}},
	} {
		got, e := c.call()
		if c.want != api.OK {
			wantErr(t, c.what, got, e, c.want)
			continue
		}
		want(t, c.what, got, e, c.is)
	}
}
