package series_test

import (
	"slices"
	"testing"

	"surd/api"
	"surd/dyadic"
	"surd/nat"
	"surd/series"
	"surd/span"
	"surd/whole"
)

// The model adds a series up term by term, by chapter 10's spans: without any
// reduction, and with what is left out laid about it. It is far narrower than
// what is asked for, so an answer that holds the number holds all of it.

// far is the farthest exponent.
const far = api.MaxExp

// most is the greatest p.
const most = 2 * api.MaxWork

// mix draws numbers by a rule of its own: the same ones in every run.
type mix uint64

func (m *mix) next() uint64 {
	*m += 0x9e3779b97f4a7c15
	z := uint64(*m)
	z = (z ^ z>>30) * 0xbf58476d1ce4e5b9
	z = (z ^ z>>27) * 0x94d049bb133111eb
	return z ^ z>>31
}

// below draws a number from 0 to n - 1.
func (m *mix) below(n int) int { return int(m.next() % uint64(n)) }

// near draws a number that is less than 2^top in size, of so many limbs, some
// of them at their ends; many are far less.
func (m *mix) near(top, limbs int) api.Dyadic {
	size := make(api.Nat, limbs)
	for i := range size {
		size[i] = m.next()
		switch m.below(6) {
		case 0:
			size[i] = 0
		case 1:
			size[i] = ^uint64(0)
		}
	}
	down := 0
	if m.below(2) == 0 {
		down = m.below(80)
	}
	return api.Dyadic{Man: api.Whole{Neg: m.below(2) == 0, Abs: size}, Exp: top - 64*limbs - down}
}

// of is m times 2^e, as it stands there.
func of(m, e int) api.Dyadic { return api.Dyadic{Man: whole.Of(m), Exp: e} }

// above is a size times 2^e.
func above(size api.Nat, e int) api.Dyadic { return api.Dyadic{Man: api.Whole{Abs: size}, Exp: e} }

// minus is -a.
func minus(a api.Dyadic) api.Dyadic {
	a.Man.Neg = !a.Man.Neg
	return a
}

// only is the span of one number.
func only(d api.Dyadic) api.Span { return api.Span{Lo: d, Hi: d} }

// power is 2^n.
func power(n int) api.Nat {
	a := make(api.Nat, n/64+1)
	a[n/64] = 1 << (n % 64)
	return a
}

// powerAnd is 2^n + 1, n being above 0.
func powerAnd(n int) api.Nat {
	a := power(n)
	a[0] |= 1
	return a
}

// ones is 2^n - 1: n bits, all of them 1.
func ones(n int) api.Nat {
	a := make(api.Nat, n/64+1)
	for i := range n / 64 {
		a[i] = ^uint64(0)
	}
	a[n/64] = 1<<(n%64) - 1
	return a
}

// must is what a call answers, where it may not be refused.
func must[T any](t *testing.T) func(a T, e api.Errno) T {
	return func(a T, e api.Errno) T {
		t.Helper()
		if e != api.OK {
			t.Fatalf("error %d", e)
		}
		return a
	}
}

// compare is -1, 0 or 1.
func compare(t *testing.T, a, b api.Dyadic) int {
	t.Helper()
	return must[int](t)(dyadic.Compare(a, b))
}

// within: does b have both of a's ends?
func within(t *testing.T, a, b api.Span) bool {
	t.Helper()
	return must[bool](t)(span.Within(a, b))
}

// meet: have they a number in common?
func meet(t *testing.T, a, b api.Span) bool {
	t.Helper()
	_, e := span.Meet(a, b)
	if e != api.OK && e != api.ErrSpanApart {
		t.Fatalf("error %d", e)
	}
	return e == api.OK
}

// canonical is the same number in its normal shape.
func canonical(a api.Dyadic) api.Dyadic {
	size := nat.Norm(a.Man.Abs)
	if len(size) == 0 {
		return api.Dyadic{}
	}
	tail := nat.Tail(size)
	size, e := nat.Right(size, tail)
	if e != api.OK {
		panic(e)
	}
	return api.Dyadic{Man: api.Whole{Neg: a.Man.Neg, Abs: size}, Exp: a.Exp + tail}
}

// same: are they the same limbs, signs and exponents?
func same(a, b api.Dyadic) bool {
	return a.Exp == b.Exp && a.Man.Neg == b.Man.Neg && slices.Equal(a.Man.Abs, b.Man.Abs)
}

func sameSpan(a, b api.Span) bool { return same(a.Lo, b.Lo) && same(a.Hi, b.Hi) }

// short keeps a failure's text readable.
func short(a api.Span) api.Span {
	a.Lo.Man.Abs = a.Lo.Man.Abs[:min(len(a.Lo.Man.Abs), 4)]
	a.Hi.Man.Abs = a.Hi.Man.Abs[:min(len(a.Hi.Man.Abs), 4)]
	return a
}

// wantGood asks for a good span, at p, that has all of held.
func wantGood(t *testing.T, what string, got api.Span, e api.Errno, p int, held api.Span) {
	t.Helper()
	if e != api.OK {
		t.Errorf("%s at %d: error %d", what, p, e)
		return
	}
	for _, end := range []api.Dyadic{got.Lo, got.Hi} {
		if !same(end, canonical(end)) || end.Exp < -(2*p+64) {
			t.Errorf("%s at %d: an end with the exponent %d", what, p, end.Exp)
		}
	}
	width := must[api.Dyadic](t)(dyadic.Sub(got.Hi, got.Lo))
	if dyadic.Sign(width) < 0 || compare(t, width, of(1, -p)) > 0 {
		t.Errorf("%s at %d: ends with the exponents %d and %d are too far apart", what, p, got.Lo.Exp, got.Hi.Exp)
	}
	if !within(t, held, got) {
		t.Errorf("%s at %d: %v does not hold %v", what, p, short(got), short(held))
	}
}

// wantErr asks for that error, and for nothing beside it.
func wantErr(t *testing.T, what string, got api.Span, e, wanted api.Errno) {
	t.Helper()
	if e != wanted || !sameSpan(got, api.Span{}) {
		t.Errorf("%s: %v, error %d; not error %d", what, short(got), e, wanted)
	}
}

// call is one of the calls of a number.
type call struct {
	what string
	of   func(x api.Dyadic, p int) (api.Span, api.Errno)
	// top: the greatest size is 2^top.
	top int
	// atZero is what the function is at 0.
	atZero int
	// odd: does the series begin with x, and not with 1?
	odd bool
	// squares: 1, -1, or 0 where the series goes on by x itself.
	squares int
	// step is by what the n-th term differs from the one before, beside x.
	step func(n int) (times, through int)
}

// calls are all of them.
func calls() []call {
	return []call{
		{"Exp", series.Exp, 0, 1, false, 0, func(n int) (int, int) { return 1, n }},
		{"Sin", series.Sin, 0, 0, true, -1, func(n int) (int, int) { return 1, 2 * n * (2*n + 1) }},
		{"Cos", series.Cos, 0, 1, false, -1, func(n int) (int, int) { return 1, (2*n - 1) * 2 * n }},
		{"Atan", series.Atan, -1, 0, true, -1, func(n int) (int, int) { return 2*n - 1, 2*n + 1 }},
		{"Atanh", series.Atanh, -1, 0, true, 1, func(n int) (int, int) { return 2*n - 1, 2*n + 1 }},
	}
}

// model is a span of the function's value at any number of x, which is narrower
// than 2^-p by far, if x is.
func (c call) model(t *testing.T, x api.Span, p int) api.Span {
	t.Helper()
	reckon := must[api.Span](t)
	pos := -(p + 64)
	x = reckon(span.Outward(x, pos))
	factor := x
	if c.squares != 0 {
		factor = reckon(span.Mul(reckon(span.Mul(x, x, pos)), only(of(c.squares, 0)), pos))
	}
	term := only(of(1, 0))
	if c.odd {
		term = x
	}
	total := only(api.Dyadic{})
	// From here on each term is at most half of the one before.
	for n := 1; n < 3 || !isTiny(t, term, -(p+40)); n++ {
		total = reckon(span.Add(total, term, pos))
		times, through := c.step(n)
		term = reckon(span.Mul(reckon(span.Mul(term, factor, pos)), only(of(times, 0)), pos))
		term = reckon(span.Quo(term, only(of(through, 0)), pos))
	}
	rest := api.Span{Lo: of(-1, -(p + 39)), Hi: of(1, -(p + 39))}
	return reckon(span.Add(total, rest, pos))
}

// isTiny: are all its numbers at most 2^pos in size?
func isTiny(t *testing.T, a api.Span, pos int) bool {
	t.Helper()
	return within(t, a, api.Span{Lo: of(-1, pos), Hi: of(1, pos)})
}
