package consts_test

import (
	"slices"
	"testing"

	"surd/api"
	"surd/consts"
	"surd/dyadic"
	"surd/mul"
	"surd/nat"
	"surd/span"
	"surd/whole"
)

// The model adds other series up than the program does, term by term, in steps
// that are far finer than what is asked for.

const (
	// far is the farthest exponent.
	far = api.MaxExp
	// finer is how many places more the model has.
	finer = 64
	// unsure is 2^unsure steps: far more than a plain sum of at most 2^18 terms
	// is off, as its n-th term is at most n + 2 of them off.
	unsure = 40
)

// mix draws numbers by a rule of its own: the same ones in every run.
type mix uint64

func (m *mix) next() uint64 {
	*m += 0x9e3779b97f4a7c15
	z := uint64(*m)
	z = (z ^ z>>30) * 0xbf58476d1ce4e5b9
	z = (z ^ z>>27) * 0x94d049bb133111eb
	return z ^ z>>31
}

// below draws a number from 0 to n - 1.
func (m *mix) below(n int) int { return int(m.next() % uint64(n)) }

// of is m times 2^e, as it stands there.
func of(m, e int) api.Dyadic { return api.Dyadic{Man: whole.Of(m), Exp: e} }

// only is the span of one number.
func only(d api.Dyadic) api.Span { return api.Span{Lo: d, Hi: d} }

// must is what a call answers, where it may not be refused.
func must[T any](t *testing.T) func(a T, e api.Errno) T {
	return func(a T, e api.Errno) T {
		t.Helper()
		if e != api.OK {
			t.Fatalf("error %d", e)
		}
		return a
	}
}

// compare is -1, 0 or 1.
func compare(t *testing.T, a, b api.Dyadic) int {
	t.Helper()
	return must[int](t)(dyadic.Compare(a, b))
}

// within: does b have both of a's ends?
func within(t *testing.T, a, b api.Span) bool {
	t.Helper()
	return must[bool](t)(span.Within(a, b))
}

// meet: have they a number in common?
func meet(t *testing.T, a, b api.Span) bool {
	t.Helper()
	_, e := span.Meet(a, b)
	if e != api.OK && e != api.ErrSpanApart {
		t.Fatalf("error %d", e)
	}
	return e == api.OK
}

// add is the sum of spans, without any rounding.
func add(t *testing.T, first api.Span, others ...api.Span) api.Span {
	t.Helper()
	for _, a := range others {
		first = must[api.Span](t)(span.Add(first, a, -far))
	}
	return first
}

// times is n a, without any rounding.
func times(t *testing.T, n int, a api.Span) api.Span {
	t.Helper()
	return must[api.Span](t)(span.Mul(only(of(n, 0)), a, -far))
}

// canonical is the same number in its normal shape.
func canonical(a api.Dyadic) api.Dyadic {
	size := nat.Norm(a.Man.Abs)
	if len(size) == 0 {
		return api.Dyadic{}
	}
	tail := nat.Tail(size)
	size, e := nat.Right(size, tail)
	if e != api.OK {
		panic(e)
	}
	return api.Dyadic{Man: api.Whole{Neg: a.Man.Neg, Abs: size}, Exp: a.Exp + tail}
}

// same: are they the same limbs, signs and exponents?
func same(a, b api.Dyadic) bool {
	return a.Exp == b.Exp && a.Man.Neg == b.Man.Neg && slices.Equal(a.Man.Abs, b.Man.Abs)
}

func sameSpan(a, b api.Span) bool { return same(a.Lo, b.Lo) && same(a.Hi, b.Hi) }

func sameWhole(a, b api.Whole) bool { return a.Neg == b.Neg && slices.Equal(a.Abs, b.Abs) }

// short keeps a failure's text readable.
func short(a api.Span) api.Span {
	a.Lo.Man.Abs = a.Lo.Man.Abs[:min(len(a.Lo.Man.Abs), 4)]
	a.Hi.Man.Abs = a.Hi.Man.Abs[:min(len(a.Hi.Man.Abs), 4)]
	return a
}

// wantEnclosure asks for an enclosure at p that has all of held, which is far
// narrower, in a normal shape.
func wantEnclosure(t *testing.T, what string, got api.Span, e api.Errno, p int, held api.Span) {
	t.Helper()
	if e != api.OK {
		t.Errorf("%s at %d: error %d", what, p, e)
		return
	}
	for _, end := range []api.Dyadic{got.Lo, got.Hi} {
		if !same(end, canonical(end)) {
			t.Errorf("%s at %d: an end in no normal shape", what, p)
		}
		if n := nat.Length(end.Man.Abs); n > p+128 {
			t.Errorf("%s at %d: an end of %d bits", what, p, n)
		}
	}
	width := must[api.Dyadic](t)(dyadic.Sub(got.Hi, got.Lo))
	if dyadic.Sign(width) < 0 || compare(t, width, of(1, -p)) > 0 {
		t.Errorf("%s at %d: the ends %v are too far apart, or not in order", what, p, short(got))
	}
	if !within(t, held, got) {
		t.Errorf("%s at %d: %v does not hold %v", what, p, short(got), short(held))
	}
}

// call is a call of a precision, and a model of its number.
type call struct {
	what  string
	of    func(p int) (api.Span, api.Errno)
	model func(t *testing.T, p int) api.Span
}

// wantAt asks for an enclosure at p.
func (c call) wantAt(t *testing.T, p int, held api.Span) {
	t.Helper()
	got, e := c.of(p)
	wantEnclosure(t, c.what, got, e, p, held)
}

// constants are the calls of a precision alone.
func constants() []call {
	return []call{
		{"Pi", consts.Pi, plain{first: 2, through: 1, step: func(n int) (int, int, int) { return n, 2*n + 1, 1 }}.model},
		{"LnTwo", consts.LnTwo, plain{first: 1, through: 2, step: func(n int) (int, int, int) { return 1, 2, n + 1 }}.model},
		{"E", consts.E, plain{first: 1, through: 1, step: func(n int) (int, int, int) { return 1, max(n, 1), 1 }}.model},
		{"Apery", consts.Apery, plain{first: 5, through: 4, step: func(n int) (int, int, int) {
			return -n - 1, 2 * (2*n + 1), (n + 1) * (n + 1) * (n + 1)
		}}.model},
		{"Golden", consts.Golden, goldenModel},
	}
}

// arctan is Arctan of k.
func arctan(k int) call {
	return call{"Arctan", func(p int) (api.Span, api.Errno) { return consts.Arctan(k, p) }, arcOf(1, k, false).model}
}

// arctanh is Arctanh of k.
func arctanh(k int) call {
	return call{"Arctanh", func(p int) (api.Span, api.Errno) { return consts.Arctanh(k, p) }, arcOf(1, k, true).model}
}

// ln is Ln of k, which is above 1: the model has a power of two for a part of it.
func ln(k int) call {
	power, twos := 1, 0
	for 2*power <= k {
		power, twos = 2*power, twos+1
	}
	return call{"Ln", func(p int) (api.Span, api.Errno) { return consts.Ln(k, p) }, func(t *testing.T, p int) api.Span {
		rest := arcOf(k-power, k+power, true).model(t, p)
		return add(t, times(t, twos, constants()[1].model(t, p)), times(t, 2, rest))
	}}
}

// arcOf is the series of an arc tangent, or a hyperbolic one.
func arcOf(rise, run int, hyperbolic bool) plain {
	square := rise * rise
	if !hyperbolic {
		square = -square
	}
	return plain{first: rise, through: run, step: func(n int) (int, int, int) { return square, run * run, 2*n + 1 }}
}

// plain is the sum of powers, each divided by something: power 0 is first /
// through, and power n the one ahead of it times up / down, which is at most 1/2
// (but for power 1 of E).
type plain struct {
	first, through int
	step           func(n int) (up, down, by int)
}

// model is a span about the sum that is narrower than 2^-p by far.
func (s plain) model(t *testing.T, p int) api.Span {
	t.Helper()
	reckon := must[api.Whole](t)
	places := p + finer
	power := reckon(whole.Shift(whole.Of(s.first), places))
	power.Abs = through(t, power.Abs, s.through)
	var total api.Whole
	for n := 0; ; n++ {
		up, down, by := s.step(n)
		if n > 0 {
			power = reckon(whole.Mul(power, whole.Of(up)))
			power.Abs = through(t, power.Abs, down)
		}
		if whole.Sign(power) == 0 {
			return about(t, total, places)
		}
		total = reckon(whole.Add(total, api.Whole{Neg: power.Neg, Abs: through(t, power.Abs, by)}))
	}
}

// through is a / d, rounded down.
func through(t *testing.T, a api.Nat, d int) api.Nat {
	t.Helper()
	q, _, e := nat.Through(a, uint64(d))
	return must[api.Nat](t)(q, e)
}

// about is the span about so many steps that what they may be off leaves.
func about(t *testing.T, steps api.Whole, places int) api.Span {
	t.Helper()
	middle := only(api.Dyadic{Man: steps, Exp: -places})
	return add(t, middle, api.Span{Lo: of(-1, unsure-places), Hi: of(1, unsure-places)})
}

// goldenModel is the quotient of Fibonacci's numbers: what it is off is less
// than 1 through the square of the lesser one.
func goldenModel(t *testing.T, p int) api.Span {
	t.Helper()
	reckon := must[api.Nat](t)
	places := p + finer
	next, this := reckon(mul.Fibonacci(places+1)), reckon(mul.Fibonacci(places))
	q, _, e := whole.Floor(must[api.Whole](t)(whole.Shift(api.Whole{Abs: next}, places)), api.Whole{Abs: this})
	return about(t, must[api.Whole](t)(q, e), places)
}
