package span_test

import (
	"testing"

	"surd/api"
	"surd/dyadic"
	"surd/span"
)

// The chapter's examples 3 and 4, as far as they ask and part.
func TestExamplesOfAsks(t *testing.T) {
	if got, e := span.Sign(ints(0, 1)); got != 0 || e != api.OK {
		t.Errorf("Sign: %d, error %d", got, e)
	}
	if got, e := span.Order(ints(0, 1), ints(1, 2)); got != 0 || e != api.OK {
		t.Errorf("Order: %d, error %d", got, e)
	}
	if got, e := span.Order(ints(0, 1), from(of(3, -1), of(2, 0))); got != -1 || e != api.OK {
		t.Errorf("Order: %d, error %d", got, e)
	}
	lower, upper, e := span.Apart(ints(0, 3), 0)
	want(t, "Apart, below", lower, e, ints(0, 1))
	want(t, "Apart, above", upper, e, ints(1, 3))
	width, e := span.Width(ints(1, 1))
	wantNumber(t, "Width", width, e, api.Dyadic{})
	if got, e := span.Has(ints(0, 1), of(1, -1)); !got || e != api.OK {
		t.Errorf("Has: %v, error %d", got, e)
	}
}

// P10.7: spans of halves, by going through their numbers.
func TestAsksOfHalves(t *testing.T) {
	all := halves(3)
	for _, a := range all {
		x := halfSpan(a)
		signs := [3]int{}
		for n := a[0]; n <= a[1]; n++ {
			signs[1+min(max(n, -1), 1)]++
		}
		wanted := 0
		switch count := a[1] - a[0] + 1; count {
		case signs[0]:
			wanted = -1
		case signs[2]:
			wanted = 1
		}
		if got, e := span.Sign(x); got != wanted || e != api.OK {
			t.Errorf("Sign of %v: %d, error %d", a, got, e)
		}
		for n := -8; n <= 8; n++ {
			if got, e := span.Has(x, of(n, -2)); got != (2*a[0] <= n && n <= 2*a[1]) || e != api.OK {
				t.Errorf("Has of %v, %d quarters: %v, error %d", a, n, got, e)
			}
		}
		for _, b := range all {
			isWithin, isBelow, isAbove := true, true, true
			for n := a[0]; n <= a[1]; n++ {
				isWithin = isWithin && b[0] <= n && n <= b[1]
				for m := b[0]; m <= b[1]; m++ {
					isBelow, isAbove = isBelow && n < m, isAbove && n > m
				}
			}
			if got, e := span.Within(x, halfSpan(b)); got != isWithin || e != api.OK {
				t.Errorf("Within of %v and %v: %v, error %d", a, b, got, e)
			}
			order := map[bool]int{true: 1}
			if got, e := span.Order(x, halfSpan(b)); got != order[isAbove]-order[isBelow] || e != api.OK {
				t.Errorf("Order of %v and %v: %d, error %d", a, b, got, e)
			}
		}
	}
}

// P10.7: samples in all shapes, by their ends.
func TestAsks(t *testing.T) {
	reckon := must[api.Dyadic](t)
	some := samples(t)
	for i, a := range some {
		for _, d := range numbers() {
			if got, e := span.Has(a, d); got != has(t, a, d) || e != api.OK {
				t.Errorf("Has of %v: %v, error %d", short(a), got, e)
			}
		}
		for j := range 12 {
			b := some[(i+7*j)%len(some)]
			if got, e := span.Within(a, b); got != within(t, a, b) || e != api.OK {
				t.Errorf("Within of %v and %v: %v, error %d", short(a), short(b), got, e)
			}
			wanted := 0
			switch {
			case compare(t, a.Hi, b.Lo) < 0:
				wanted = -1
			case compare(t, a.Lo, b.Hi) > 0:
				wanted = 1
			}
			if got, e := span.Order(a, b); got != wanted || e != api.OK {
				t.Errorf("Order of %v and %v: %d, error %d", short(a), short(b), got, e)
			}
		}
		width, e := span.Width(a)
		wantNumber(t, "Width", width, e, reckon(dyadic.Sub(a.Hi, a.Lo)))
		middle, e := span.Middle(a)
		wantNumber(t, "Middle", middle, e, reckon(dyadic.Mul(of(1, -1), reckon(dyadic.Add(a.Lo, a.Hi)))))
	}
}

// P10.7: as far and as long as may be. Asks refuse no number for that.
func TestAsksAtTheLimit(t *testing.T) {
	l, high, low := long(), of(1, far), of(1, -far)
	if got, e := span.Has(from(minus(l), beyond()), l); !got || e != api.OK {
		t.Errorf("Has: %v, error %d", got, e)
	}
	if got, e := span.Within(from(minus(l), l), from(minus(beyond()), beyond())); !got || e != api.OK {
		t.Errorf("Within: %v, error %d", got, e)
	}
	if got, e := span.Sign(from(low, beyond())); got != 1 || e != api.OK {
		t.Errorf("Sign: %d, error %d", got, e)
	}
	if got, e := span.Sign(from(below(api.Nat{0}, 3), l)); got != 0 || e != api.OK {
		t.Errorf("Sign from 0 with a sign: %d, error %d", got, e)
	}
	if got, e := span.Sign(from(minus(l), below(nil, 3))); got != 0 || e != api.OK {
		t.Errorf("Sign to 0 with a sign: %d, error %d", got, e)
	}
	if got, e := span.Order(only(beyond()), only(l)); got != 1 || e != api.OK {
		t.Errorf("Order: %d, error %d", got, e)
	}
	width, e := span.Width(from(low, high))
	wantNumberErr(t, "Width, long", width, e, api.ErrBig)
	width, e = span.Width(from(minus(high), high))
	wantNumberErr(t, "Width, beyond", width, e, api.ErrDyadicExp)
	width, e = span.Width(only(l))
	wantNumber(t, "Width of a long one", width, e, api.Dyadic{})
	middle, e := span.Middle(from(low, high))
	wantNumberErr(t, "Middle, long", middle, e, api.ErrBig)
	middle, e = span.Middle(from(api.Dyadic{}, low))
	wantNumberErr(t, "Middle, beyond", middle, e, api.ErrDyadicExp)
	middle, e = span.Middle(only(l))
	wantNumberErr(t, "Middle of a long one", middle, e, api.ErrBig)
	middle, e = span.Middle(from(minus(l), l))
	wantNumber(t, "Middle of opposites", middle, e, api.Dyadic{})
	middle, e = span.Middle(only(high))
	wantNumber(t, "Middle far away", middle, e, high)
}

// P10.8: spans of halves, counted out in quarters.
func TestApartOfHalves(t *testing.T) {
	for _, a := range halves(6) {
		for pos := -4; pos <= 4; pos++ {
			lower, upper, e := span.Apart(halfSpan(a), pos)
			cut := of(fraction{a[0] + a[1], 4}.steps(pos, false), pos)
			if compare(t, cut, of(a[0], -1)) < 0 {
				cut = of(a[0], -1)
			}
			want(t, "Apart, below", lower, e, from(of(a[0], -1), cut))
			want(t, "Apart, above", upper, e, from(cut, of(a[1], -1)))
		}
	}
}

// P10.8: samples in all shapes.
func TestApart(t *testing.T) {
	reckon := must[api.Dyadic](t)
	for _, a := range samples(t) {
		for _, pos := range places() {
			lower, upper, e := span.Apart(a, pos)
			cut := reckon(dyadic.Round(reckon(dyadic.Middle(a.Lo, a.Hi)), pos, api.Down))
			cut = greatest(t, cut, a.Lo)
			want(t, "Apart, below", lower, e, from(a.Lo, cut))
			want(t, "Apart, above", upper, e, from(cut, a.Hi))
		}
	}
}

// P10.8: the middle is refused first; then the ends.
func TestApartRefused(t *testing.T) {
	const n = api.MaxBits
	high, low, l := of(1, far), of(1, -far), long()
	// Their sum is one step at the bottom: its half is beyond.
	down, up := below(powerAnd(n, 1), -far), above(powerAnd(n, 2), -far)
	for _, c := range []struct {
		what string
		a    api.Span
		pos  int
		want api.Errno
	}{
		{"the middle, long", from(low, high), 0, api.ErrBig},
		{"the middle, beyond", from(api.Dyadic{}, low), 0, api.ErrDyadicExp},
		{"the middle, beyond, of long ends", from(down, up), 0, api.ErrDyadicExp},
		{"the ends, long", from(minus(l), l), 0, api.ErrBig},
		{"Lo, long", from(minus(l), of(1, n)), 0, api.ErrBig},
		{"Hi, long", from(of(-1, n), l), 0, api.ErrBig},
		{"Lo, long, Hi, beyond", from(below(powerAnd(n, 1), far-n), beyond()), 0, api.ErrBig},
		{"Lo, beyond, Hi, long", from(minus(beyond()), above(powerAnd(n, 1), far-n)), 0, api.ErrBig},
		{"Hi, beyond", from(api.Dyadic{}, beyond()), 0, api.ErrDyadicExp},
		{"the ends, beyond", from(minus(beyond()), beyond()), 0, api.ErrDyadicExp},
		{"the cut, beyond", from(of(1, far), of(7, far-1)), far, api.ErrDyadicExp},
		{"no position", ints(0, 1), far + 1, api.ErrArg},
		{"no position", ints(0, 1), -far - 1, api.ErrArg},
	} {
		lower, upper, e := span.Apart(c.a, c.pos)
		wantErr(t, c.what, lower, e, c.want)
		wantErr(t, c.what, upper, e, c.want)
	}
	lower, upper, e := span.Apart(ints(1, 9), far)
	want(t, "at the top, below", lower, e, ints(1, 1))
	want(t, "at the top, above", upper, e, ints(1, 9))
	lower, upper, e = span.Apart(ints(1, 4), -far)
	want(t, "at the bottom, below", lower, e, from(of(1, 0), of(5, -1)))
	want(t, "at the bottom, above", upper, e, from(of(5, -1), of(4, 0)))
}

// P10.8: ends in quarters of 2^far, counted out in eighths. A cut below Lo is
// none of the answer's ends: so it may be beyond.
func TestApartAtTheTop(t *testing.T) {
	isBeyond := func(n, e int) bool { return n != 0 && canonical(of(n, e)).Exp > far }
	saved := 0
	for _, a := range halves(34) {
		lo, hi, middle := a[0], a[1], a[0]+a[1]
		for pos := far - 4; pos <= far; pos++ {
			steps := fraction{middle, 8}.steps(pos-far, false)
			cut := of(steps, pos)
			isBelow := compare(t, cut, of(lo, far-2)) < 0
			if isBelow {
				cut = of(lo, far-2)
			}
			lower, upper, e := span.Apart(from(of(lo, far-2), of(hi, far-2)), pos)
			if isBeyond(middle, far-3) || isBeyond(lo, far-2) || isBeyond(hi, far-2) || !isBelow && isBeyond(steps, pos) {
				wantErr(t, "Apart, below, beyond", lower, e, api.ErrDyadicExp)
				wantErr(t, "Apart, above, beyond", upper, e, api.ErrDyadicExp)
				continue
			}
			if isBelow && isBeyond(steps, pos) {
				saved++
			}
			want(t, "Apart, below", lower, e, from(of(lo, far-2), cut))
			want(t, "Apart, above", upper, e, from(cut, of(hi, far-2)))
		}
	}
	if saved < 40 {
		t.Errorf("%d alone with a cut beyond, below Lo", saved)
	}
}

// P10.8: a cut that is beyond, of numbers as long as may be.
func TestApartLongAtTheTop(t *testing.T) {
	const n = api.MaxBits
	// Rounded by one place it is carried through to a power of two.
	ones := make(api.Nat, n/64)
	for i := range ones {
		ones[i] = ^uint64(0)
	}
	d := below(ones, far+1-n)
	lower, upper, e := span.Apart(only(d), far+2-n)
	want(t, "below Lo", lower, e, only(d))
	want(t, "below Lo", upper, e, only(d))
	// Half of their sum is 2.5 steps: an end beyond, between longer ones.
	eleven := power(n)
	eleven[0], eleven[n/64] = 1, 11
	lower, upper, e = span.Apart(from(below(powerAnd(n, 1), far-n-1), above(eleven, far-n-1)), far)
	wantErr(t, "the ends, long, the cut, beyond", lower, e, api.ErrBig)
	wantErr(t, "the ends, long, the cut, beyond", upper, e, api.ErrBig)
}
