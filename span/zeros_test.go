package span_test

import (
	"testing"

	"surd/api"
	"surd/dyadic"
	"surd/span"
)

// zeros is Zeros by a list of what is still to be looked at, and by the calls
// that the chapter names.
func zeros(t *testing.T, c []api.Dyadic, x api.Span, pos, most int) []api.Span {
	t.Helper()
	var kept []api.Span
	looked, next := 0, []api.Span{x}
	for len(next) > 0 {
		s := next[len(next)-1]
		next = next[:len(next)-1]
		if looked == most {
			kept = append(kept, s)
			continue
		}
		looked++
		byRule, e := span.Horner(c, s, pos)
		byCentre, f := span.Centred(c, s, pos)
		if e == api.OK && !has(t, byRule, api.Dyadic{}) || f == api.OK && !has(t, byCentre, api.Dyadic{}) {
			continue
		}
		width, e := span.Width(s)
		lower, upper, f := span.Apart(s, pos-1)
		if e != api.OK || compare(t, width, of(1, pos)) <= 0 || looked == most || f != api.OK {
			kept = append(kept, s)
			continue
		}
		next = append(next, upper, lower)
	}
	return kept
}

// wantZeros asks for spans.
func wantZeros(t *testing.T, what string, got []api.Span, e api.Errno, wanted ...api.Span) {
	t.Helper()
	if e != api.OK || len(got) != len(wanted) {
		t.Errorf("%s: %d spans, error %d; not %d", what, len(got), e, len(wanted))
		return
	}
	for i := range got {
		want(t, what, got[i], e, wanted[i])
	}
}

// P10.17: polynomials whose zeros are known.
func TestZerosOfKnownOnes(t *testing.T) {
	square := polynomial(-2, 0, 1) // t^2 - 2
	got, e := span.Zeros(square, ints(-2, 2), 0, 100)
	wantZeros(t, "t^2 - 2 in ones", got, e, from(of(-2, 0), of(-1, 0)), from(of(1, 0), of(2, 0)))
	got, e = span.Zeros(square, ints(0, 2), -1, 100)
	wantZeros(t, "t^2 - 2 in halves", got, e, from(of(1, 0), of(3, -1)), from(of(3, -1), of(2, 0)))
	got, e = span.Zeros(square, ints(4, 8), -3, 100)
	wantZeros(t, "none", got, e)
	got, e = span.Zeros(polynomial(2, 0, 1), ints(-4, 4), -3, 1000)
	wantZeros(t, "t^2 + 2", got, e)
	got, e = span.Zeros(polynomial(7), ints(-4, 4), -3, 1)
	wantZeros(t, "7", got, e)
	got, e = span.Zeros(nil, ints(-4, 4), 1, 100)
	wantZeros(t, "0", got, e, ints(-4, -2), ints(-2, 0), ints(0, 2), ints(2, 4))
	got, e = span.Zeros(polynomial(0), from(of(16, -2), of(4, 0)), -9, 100)
	wantZeros(t, "0 at one number", got, e, ints(4, 4))
	got, e = span.Zeros(polynomial(-3, 1), ints(3, 3), -9, 1)
	wantZeros(t, "a zero alone", got, e, ints(3, 3))
}

// P10.17: how many are looked at: what is left then is kept as it is.
func TestZerosLookedAt(t *testing.T) {
	for most, wanted := range map[int][]api.Span{
		1: {ints(0, 8)},
		2: {ints(0, 4), ints(4, 8)},
		3: {ints(0, 2), ints(2, 4), ints(4, 8)},
		4: {ints(0, 1), ints(1, 2), ints(2, 4), ints(4, 8)},
		5: {ints(0, 1), ints(1, 2), ints(2, 4), ints(4, 8)},
		6: {ints(0, 1), ints(1, 2), ints(2, 4), ints(4, 8)},
		7: {ints(0, 1), ints(1, 2), ints(2, 3), ints(3, 4), ints(4, 8)},
	} {
		got, e := span.Zeros(polynomial(0), ints(0, 8), 0, most)
		wantZeros(t, "0, most "+string(rune('0'+most)), got, e, wanted...)
	}
	// What is dropped has been looked at too.
	got, e := span.Zeros(polynomial(-7, 1), ints(0, 8), 0, 3)
	wantZeros(t, "t - 7", got, e, ints(4, 8))
	got, e = span.Zeros(polynomial(-7, 1), ints(0, 8), 0, 4)
	wantZeros(t, "t - 7", got, e, ints(6, 8))
	got, e = span.Zeros(polynomial(-7, 1), ints(0, 8), 0, 1000)
	wantZeros(t, "t - 7", got, e, ints(6, 7), ints(7, 8))
}

// P10.17: drawn ones, by a list.
func TestZeros(t *testing.T) {
	m := mix(5)
	for i := range 120 {
		c := make([]api.Dyadic, 1+i%6)
		for j := range c {
			c[j] = of(m.below(41)-20, m.below(4)-2)
		}
		x := ordered(t, of(m.below(81)-40, -3), of(m.below(81)-40, -2))
		for _, pos := range []int{-6, -3, -1, 0, 2} {
			for _, most := range []int{1, 2, 9, 60} {
				got, e := span.Zeros(c, x, pos, most)
				wantZeros(t, "Zeros", got, e, zeros(t, c, x, pos, most)...)
			}
		}
	}
}

// product is a polynomial with those zeros.
func product(t *testing.T, zeros []api.Dyadic) []api.Dyadic {
	reckon := must[api.Dyadic](t)
	c := polynomial(1)
	for _, z := range zeros {
		next := make([]api.Dyadic, len(c)+1)
		for i, d := range c {
			next[i] = reckon(dyadic.Sub(next[i], reckon(dyadic.Mul(d, z))))
			next[i+1] = reckon(dyadic.Add(next[i+1], d))
		}
		c = next
	}
	return c
}

// P10.18: each zero in x lies in one; all lie within x, from the left to the
// right.
func TestZerosLieInside(t *testing.T) {
	m := mix(6)
	for i := range 60 {
		var known []api.Dyadic
		for range 1 + i%5 {
			known = append(known, of(m.below(401)-200, -m.below(6)))
		}
		c, x := product(t, known), from(of(-9-m.below(9), 0), of(m.below(99), -1))
		for _, pos := range []int{-9, -4, 0, 3} {
			l := must[[]api.Span](t)(span.Zeros(c, x, pos, 1+m.below(300)))
			for _, z := range known {
				isIn := false
				for _, s := range l {
					isIn = isIn || has(t, s, z)
				}
				if has(t, x, z) && !isIn {
					t.Errorf("the zero %v lies in none of %v", z, l)
				}
			}
			for j, s := range l {
				if !within(t, s, x) || j > 0 && compare(t, l[j-1].Hi, s.Lo) > 0 {
					t.Errorf("%v is out of its place", s)
				}
			}
		}
	}
}

// P10.17: what is refused drops nothing, and keeps what can't be parted.
func TestZerosRefused(t *testing.T) {
	l, high, low := long(), of(1, far), of(1, -far)
	list := func(l ...api.Dyadic) []api.Dyadic { return l }
	got, e := span.Zeros(list(l), ints(0, 2), 0, 9)
	wantZeros(t, "values", got, e, ints(0, 1), ints(1, 2))
	got, e = span.Zeros(list(l), ints(0, 2), 0, 2)
	wantZeros(t, "values, looked at", got, e, ints(0, 1), ints(1, 2))
	got, e = span.Zeros(nil, from(low, high), 0, 9)
	wantZeros(t, "the width, long", got, e, from(low, high))
	got, e = span.Zeros(nil, from(minus(high), high), 0, 9)
	wantZeros(t, "the width, beyond", got, e, from(minus(high), high))
	got, e = span.Zeros(nil, ints(0, 1), -far, 9)
	wantZeros(t, "no position to part at", got, e, ints(0, 1))
	got, e = span.Zeros(nil, from(api.Dyadic{}, of(1, 1-far)), 1-far, 9)
	wantZeros(t, "the lowest position to part at", got, e, from(api.Dyadic{}, of(1, 1-far)))
	got, e = span.Zeros(nil, from(api.Dyadic{}, of(1, 2-far)), 1-far, 9)
	wantZeros(t, "the lowest position to part at", got, e, from(api.Dyadic{}, of(1, 1-far)), from(of(1, 1-far), of(1, 2-far)))

	// Centred is refused, as there is no middle; Horner alone drops it.
	got, e = span.Zeros(polynomial(1), from(low, high), 0, 9)
	wantZeros(t, "the middle", got, e)
	// Horner is refused here and Centred too; x is too long to be kept.
	for _, c := range []struct {
		x    api.Span
		want api.Errno
	}{{only(l), api.ErrBig}, {only(beyond()), api.ErrDyadicExp}, {from(l, beyond()), api.ErrBig}, {from(minus(beyond()), l), api.ErrBig}, {from(minus(beyond()), beyond()), api.ErrDyadicExp}} {
		got, e = span.Zeros(nil, c.x, 0, 9)
		if e != c.want || len(got) > 0 {
			t.Errorf("%v is kept: %d spans, error %d", short(c.x), len(got), e)
		}
		got, e = span.Zeros(polynomial(-1), c.x, 0, 9)
		wantZeros(t, "it is dropped", got, e)
	}
}
