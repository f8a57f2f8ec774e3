package span_test

import (
	"slices"
	"testing"

	"surd/api"
	"surd/dyadic"
	"surd/nat"
	"surd/span"
	"surd/whole"
)

// The model counts in ints where it can be counted out: small spans are gone
// through number by number. Else ends are found from all pairs of ends, by
// chapter 8's calls. There is but one span of a value with normal ends; so value
// and shape are all that is asked for.

// far is the farthest exponent.
const far = api.MaxExp

// mix draws numbers by a rule of its own: the same ones in every run.
type mix uint64

func (m *mix) next() uint64 {
	*m += 0x9e3779b97f4a7c15
	z := uint64(*m)
	z = (z ^ z>>30) * 0xbf58476d1ce4e5b9
	z = (z ^ z>>27) * 0x94d049bb133111eb
	return z ^ z>>31
}

// below draws a number from 0 to n - 1.
func (m *mix) below(n int) int { return int(m.next() % uint64(n)) }

// nat draws a number of so many limbs, many of them at their ends.
func (m *mix) nat(limbs int) api.Nat {
	a := make(api.Nat, limbs)
	for i := range a {
		a[i] = m.next()
		switch m.below(6) {
		case 0:
			a[i] = 0
		case 1:
			a[i] = ^uint64(0)
		case 2:
			a[i] = 1 << (a[i] % 64)
		case 3:
			a[i] <<= a[i] % 64
		}
	}
	return a
}

// dyadic draws a number of up to so many limbs, in any shape, with an exponent
// that is not above so many limbs' bits.
func (m *mix) dyadic(limbs int) api.Dyadic {
	return api.Dyadic{
		Man: api.Whole{Neg: m.below(2) == 0, Abs: m.nat(m.below(limbs + 1))},
		Exp: m.below(128*limbs+1) - 64*limbs,
	}
}

// span draws a span of such ends.
func (m *mix) span(t *testing.T, limbs int) api.Span {
	return ordered(t, m.dyadic(limbs), m.dyadic(limbs))
}

// inside draws a number of a span: an end, the middle, or what lies between
// them.
func (m *mix) inside(t *testing.T, a api.Span) api.Dyadic {
	middle := must[api.Dyadic](t)(dyadic.Middle(a.Lo, a.Hi))
	switch m.below(4) {
	case 0:
		return a.Lo
	case 1:
		return a.Hi
	case 2:
		return must[api.Dyadic](t)(dyadic.Middle(a.Lo, middle))
	}
	return middle
}

// of is m times 2^e, as it stands there.
func of(m, e int) api.Dyadic { return api.Dyadic{Man: whole.Of(m), Exp: e} }

// above and below are a size times 2^e, and its negative.
func above(size api.Nat, e int) api.Dyadic { return api.Dyadic{Man: api.Whole{Abs: size}, Exp: e} }

func below(size api.Nat, e int) api.Dyadic { return minus(above(size, e)) }

// minus is -a.
func minus(a api.Dyadic) api.Dyadic {
	a.Man.Neg = !a.Man.Neg
	return a
}

// over is p / q, as it stands there.
func over(p, q int) api.Ratio { return api.Ratio{Num: whole.Of(p), Den: nat.From(uint64(q))} }

// power is 2^n.
func power(n int) api.Nat {
	a := make(api.Nat, n/64+1)
	a[n/64] = 1 << (n % 64)
	return a
}

// powerAnd is 2^n + v, v being less than 2^64 and n at least 64.
func powerAnd(n int, v uint64) api.Nat {
	a := power(n)
	a[0] |= v
	return a
}

// from is the span of two numbers, as they stand there; only is one alone; ints
// is from one int to another.
func from(lo, hi api.Dyadic) api.Span { return api.Span{Lo: lo, Hi: hi} }

func only(d api.Dyadic) api.Span { return from(d, d) }

func ints(lo, hi int) api.Span { return from(of(lo, 0), of(hi, 0)) }

// long has one bit more than a number that is answered; beyond has a normal
// exponent that is too great.
func long() api.Dyadic { return above(powerAnd(api.MaxBits, 1), 0) }

func beyond() api.Dyadic { return of(2, far) }

// ordered is the span of two numbers.
func ordered(t *testing.T, a, b api.Dyadic) api.Span {
	t.Helper()
	if compare(t, a, b) > 0 {
		return from(b, a)
	}
	return from(a, b)
}

// numbers are dyadics at their ends and drawn ones, in all their shapes.
func numbers() []api.Dyadic {
	const top = ^uint64(0)
	out := []api.Dyadic{
		{}, below(api.Nat{0, 0}, -9), of(0, 300), of(1, 0), of(-1, 0), of(3, -1), of(-12, 2), of(1, 200), of(-1, -200),
		above(api.Nat{top}, 0), below(api.Nat{top, 0}, -64), above(api.Nat{0, 1, 0}, -64), below(api.Nat{0, 0, 12}, -130), above(api.Nat{1, 1}, -1), below(powerAnd(200, 1), -100),
	}
	m := mix(1)
	for i := range 9 {
		out = append(out, m.dyadic(1+i%4))
	}
	return out
}

// samples are spans of such numbers: of one alone, of neighbours in the list,
// and of those far off in it.
func samples(t *testing.T) []api.Span {
	t.Helper()
	var out []api.Span
	l := numbers()
	for i, d := range l {
		out = append(out, only(d), ordered(t, d, l[(i+1)%len(l)]), ordered(t, d, l[(5*i+3)%len(l)]))
	}
	return out
}

// places are positions among and about the samples' bits.
func places() []int { return []int{-400, -131, -64, -3, 0, 1, 70, 190, 500} }

// must is what a call answers, where it may not be refused.
func must[T any](t *testing.T) func(a T, e api.Errno) T {
	return func(a T, e api.Errno) T {
		t.Helper()
		if e != api.OK {
			t.Fatalf("error %d", e)
		}
		return a
	}
}

// compare is -1, 0 or 1.
func compare(t *testing.T, a, b api.Dyadic) int {
	t.Helper()
	return must[int](t)(dyadic.Compare(a, b))
}

// has: is d from lo to hi?
func has(t *testing.T, a api.Span, d api.Dyadic) bool {
	t.Helper()
	return compare(t, a.Lo, d) <= 0 && compare(t, d, a.Hi) <= 0
}

// within: does b have both of a's ends?
func within(t *testing.T, a, b api.Span) bool {
	t.Helper()
	return has(t, b, a.Lo) && has(t, b, a.Hi)
}

// hullOf is the least span that has all numbers, which are sorted for it.
func hullOf(t *testing.T, l ...api.Dyadic) api.Span {
	t.Helper()
	l = slices.SortedFunc(slices.Values(l), func(a, b api.Dyadic) int { return compare(t, a, b) })
	return from(l[0], l[len(l)-1])
}

// outward is a, outward at a position.
func outward(t *testing.T, a api.Span, pos int) api.Span {
	t.Helper()
	reckon := must[api.Dyadic](t)
	return from(reckon(dyadic.Round(a.Lo, pos, api.Down)), reckon(dyadic.Round(a.Hi, pos, api.Up)))
}

// canonical is the same number in its normal shape.
func canonical(a api.Dyadic) api.Dyadic {
	size := nat.Norm(a.Man.Abs)
	if len(size) == 0 {
		return api.Dyadic{}
	}
	tail := nat.Tail(size)
	size, e := nat.Right(size, tail)
	if e != api.OK {
		panic(e)
	}
	return api.Dyadic{Man: api.Whole{Neg: a.Man.Neg, Abs: size}, Exp: a.Exp + tail}
}

// same: are they the same limbs, signs and exponents?
func same(a, b api.Dyadic) bool {
	return a.Exp == b.Exp && a.Man.Neg == b.Man.Neg && slices.Equal(a.Man.Abs, b.Man.Abs)
}

func sameSpan(a, b api.Span) bool { return same(a.Lo, b.Lo) && same(a.Hi, b.Hi) }

// want asks for the span that wanted means, with normal ends.
func want(t *testing.T, what string, got api.Span, e api.Errno, wanted api.Span) {
	t.Helper()
	if wanted = from(canonical(wanted.Lo), canonical(wanted.Hi)); e != api.OK || !sameSpan(got, wanted) {
		t.Errorf("%s: %v, error %d; not %v", what, short(got), e, short(wanted))
	}
}

// wantErr asks for that error, and for nothing beside it.
func wantErr(t *testing.T, what string, got api.Span, e, wanted api.Errno) {
	t.Helper()
	if e != wanted || !sameSpan(got, api.Span{}) {
		t.Errorf("%s: %v, error %d; not error %d", what, short(got), e, wanted)
	}
}

// wantNumber and wantNumberErr ask for one number alone, and for its error.
func wantNumber(t *testing.T, what string, got api.Dyadic, e api.Errno, wanted api.Dyadic) {
	t.Helper()
	want(t, what, only(got), e, only(wanted))
}

func wantNumberErr(t *testing.T, what string, got api.Dyadic, e, wanted api.Errno) {
	t.Helper()
	wantErr(t, what, only(got), e, wanted)
}

// short keeps a failure's text readable.
func short(a api.Span) api.Span {
	a.Lo.Man.Abs = a.Lo.Man.Abs[:min(len(a.Lo.Man.Abs), 5)]
	a.Hi.Man.Abs = a.Hi.Man.Abs[:min(len(a.Hi.Man.Abs), 5)]
	return a
}

// fraction is n / d, by ints; d is above 0.
type fraction struct{ n, d int }

func (f fraction) less(g fraction) bool { return f.n*g.d < g.n*f.d }

// steps is f in steps of 2^pos, rounded down, or up.
func (f fraction) steps(pos int, up bool) int {
	n, d := f.n<<max(-pos, 0), f.d<<max(pos, 0)
	down := n / d
	if n < down*d {
		down--
	}
	if up && down*d != n {
		down++
	}
	return down
}

// bounds are fractions from the least to the greatest one.
type bounds struct{ lo, hi fraction }

// boundsOf is the least bounds that have all fractions.
func boundsOf(l ...fraction) bounds {
	out := bounds{lo: l[0], hi: l[0]}
	for _, f := range l[1:] {
		if f.less(out.lo) {
			out.lo = f
		}
		if out.hi.less(f) {
			out.hi = f
		}
	}
	return out
}

// outward is the span of bounds, outward at a position.
func (b bounds) outward(pos int) api.Span {
	return from(of(b.lo.steps(pos, false), pos), of(b.hi.steps(pos, true), pos))
}

// halves are all spans of halves from -n / 2 to n / 2, as pairs of numerators.
func halves(n int) [][2]int {
	var out [][2]int
	for lo := -n; lo <= n; lo++ {
		for hi := lo; hi <= n; hi++ {
			out = append(out, [2]int{lo, hi})
		}
	}
	return out
}

// halfSpan is a span of halves.
func halfSpan(a [2]int) api.Span { return from(of(a[0], -1), of(a[1], -1)) }

// pairs are what work makes of each number of a, among the halves, and each of
// b. The least and the greatest of them are those of all numbers there.
func pairs(a, b [2]int, work func(x, y int) fraction) bounds {
	var l []fraction
	for x := a[0]; x <= a[1]; x++ {
		for y := b[0]; y <= b[1]; y++ {
			l = append(l, work(x, y))
		}
	}
	return boundsOf(l...)
}

// unlike has ends that may not be, one fault each, with the fault.
func unlike() map[api.Errno][]api.Span {
	return map[api.Errno][]api.Span{
		api.ErrDyadicExp: {
			from(of(1, far+1), of(1, 0)), from(of(1, 0), of(1, -far-1)), from(of(0, -far-1), of(0, 0)), from(of(5, 0), of(1, far+1)),
		},
		api.ErrSpanOrder: {ints(2, 1), ints(0, -1), from(of(1, -far), of(0, far)), from(of(-1, -far), of(-1, far)), from(of(3, -1), of(5, -2))},
	}
}

// call is a call of two spans at a position that answers one.
type call struct {
	what string
	of   func(a, b api.Span, pos int) (api.Span, api.Errno)
	// two tells whether it looks at b.
	two bool
}

// calls are all that round outward, but Of, Horner and Centred.
func calls() []call {
	one := func(work func(a api.Span, pos int) (api.Span, api.Errno)) func(a, b api.Span, pos int) (api.Span, api.Errno) {
		return func(a, _ api.Span, pos int) (api.Span, api.Errno) { return work(a, pos) }
	}
	pow := func(n int) func(a, b api.Span, pos int) (api.Span, api.Errno) {
		return func(a, _ api.Span, pos int) (api.Span, api.Errno) { return span.Pow(a, n, pos) }
	}
	return []call{
		{"Add", span.Add, true}, {"Sub", span.Sub, true}, {"Mul", span.Mul, true}, {"Quo", span.Quo, true},
		{"Outward", one(span.Outward), false}, {"Square", one(span.Square), false}, {"Inverse", one(span.Inverse), false}, {"Sqrt", one(span.Sqrt), false},
		{"Pow 0", pow(0), false}, {"Pow 1", pow(1), false}, {"Pow 3", pow(3), false}, {"Pow 4", pow(4), false},
	}
}

// sets are the calls without a position.
func sets() []call {
	one := func(work func(a api.Span) (api.Span, api.Errno)) func(a, b api.Span, _ int) (api.Span, api.Errno) {
		return func(a, _ api.Span, _ int) (api.Span, api.Errno) { return work(a) }
	}
	two := func(work func(a, b api.Span) (api.Span, api.Errno)) func(a, b api.Span, _ int) (api.Span, api.Errno) {
		return func(a, b api.Span, _ int) (api.Span, api.Errno) { return work(a, b) }
	}
	return []call{
		{"Neg", one(span.Neg), false}, {"Abs", one(span.Abs), false},
		{"Min", two(span.Min), true}, {"Max", two(span.Max), true}, {"Hull", two(span.Hull), true}, {"Meet", two(span.Meet), true},
	}
}
