package elem_test

import (
	"slices"
	"testing"

	"surd/api"
	"surd/consts"
	"surd/dyadic"
	"surd/elem"
	"surd/nat"
	"surd/rounded"
	"surd/span"
	"surd/whole"
)

// The model knows exp, sine and cosine by their plain series, in steps far finer
// than what is asked for, and asks all other functions back to these: ln x is
// above y just if x is above exp y.

const (
	// far is the farthest exponent.
	far = api.MaxExp
	// most is the greatest p.
	most = 2 * api.MaxWork
	// mostFiner is how many places more the model looks at before it takes two
	// numbers for equal.
	mostFiner = 1 << 12
)

// mix draws numbers by a rule of its own: the same ones in every run.
type mix uint64

func (m *mix) next() uint64 {
	*m += 0x9e3779b97f4a7c15
	z := uint64(*m)
	z = (z ^ z>>30) * 0xbf58476d1ce4e5b9
	z = (z ^ z>>27) * 0x94d049bb133111eb
	return z ^ z>>31
}

// below draws a number from 0 to n - 1.
func (m *mix) below(n int) int { return int(m.next() % uint64(n)) }

// number draws a number that is less than 2^top in size, of so many limbs, some
// of them at their ends; many are far less.
func (m *mix) number(top, limbs int) api.Dyadic {
	size := make(api.Nat, limbs)
	for i := range size {
		size[i] = m.next()
		switch m.below(6) {
		case 0:
			size[i] = 0
		case 1:
			size[i] = ^uint64(0)
		}
	}
	down := 0
	if m.below(2) == 0 {
		down = m.below(80)
	}
	return api.Dyadic{Man: api.Whole{Neg: m.below(2) == 0, Abs: size}, Exp: top - 64*limbs - down}
}

// of is m times 2^e, as it stands there.
func of(m, e int) api.Dyadic { return api.Dyadic{Man: whole.Of(m), Exp: e} }

// only is the span of one number.
func only(d api.Dyadic) api.Span { return api.Span{Lo: d, Hi: d} }

// between is the span from one number to another, whichever is the lesser one.
func between(t *testing.T, a, b api.Dyadic) api.Span {
	t.Helper()
	if compare(t, a, b) > 0 {
		a, b = b, a
	}
	return api.Span{Lo: a, Hi: b}
}

// minus is -a.
func minus(a api.Dyadic) api.Dyadic {
	a.Man.Neg = !a.Man.Neg
	return a
}

// size is a without its sign.
func size(a api.Dyadic) api.Dyadic {
	a.Man.Neg = false
	return a
}

// must is what a call answers, where it may not be refused.
func must[T any](t *testing.T) func(a T, e api.Errno) T {
	return func(a T, e api.Errno) T {
		t.Helper()
		if e != api.OK {
			t.Fatalf("error %d", e)
		}
		return a
	}
}

// compare is -1, 0 or 1.
func compare(t *testing.T, a, b api.Dyadic) int {
	t.Helper()
	return must[int](t)(dyadic.Compare(a, b))
}

// within: does b have both of a's ends?
func within(t *testing.T, a, b api.Span) bool {
	t.Helper()
	return must[bool](t)(span.Within(a, b))
}

// meet: have they a number in common?
func meet(t *testing.T, a, b api.Span) bool {
	t.Helper()
	_, e := span.Meet(a, b)
	if e != api.OK && e != api.ErrSpanApart {
		t.Fatalf("error %d", e)
	}
	return e == api.OK
}

// add is the sum of dyadics.
func add(t *testing.T, a, b api.Dyadic) api.Dyadic {
	t.Helper()
	return must[api.Dyadic](t)(dyadic.Add(a, b))
}

// canonical is the same number in its normal shape.
func canonical(a api.Dyadic) api.Dyadic {
	size := nat.Norm(a.Man.Abs)
	if len(size) == 0 {
		return api.Dyadic{}
	}
	tail := nat.Tail(size)
	size, e := nat.Right(size, tail)
	if e != api.OK {
		panic(e)
	}
	return api.Dyadic{Man: api.Whole{Neg: a.Man.Neg, Abs: size}, Exp: a.Exp + tail}
}

// same: are they the same limbs, signs and exponents?
func same(a, b api.Dyadic) bool {
	return a.Exp == b.Exp && a.Man.Neg == b.Man.Neg && slices.Equal(a.Man.Abs, b.Man.Abs)
}

func sameSpan(a, b api.Span) bool { return same(a.Lo, b.Lo) && same(a.Hi, b.Hi) }

// short keeps a failure's text readable.
func short(a api.Span) api.Span {
	a.Lo.Man.Abs = a.Lo.Man.Abs[:min(len(a.Lo.Man.Abs), 4)]
	a.Hi.Man.Abs = a.Hi.Man.Abs[:min(len(a.Hi.Man.Abs), 4)]
	return a
}

// call is one of the calls, and what the model knows of its function.
type call struct {
	what string
	of   func(s api.Span, p int) (api.Span, api.Errno)
	// side is 1 where the function at x is above y for sure, -1 where it is
	// below, and 0 where p more places do not tell.
	side func(t *testing.T, x, y api.Dyadic, p int) int
	// inside is what the function is within a span at its peaks: 1, -1.
	inside func(t *testing.T, s api.Span) []int
}

func never(t *testing.T, s api.Span) []int { return nil }

// calls are all of them.
func calls() []call {
	return []call{
		{"Exp", elem.Exp, byValue(exp), never},
		{"Ln", elem.Ln, func(t *testing.T, x, y api.Dyadic, p int) int { return sideOf(t, exp(t, y, p), x, -1) }, never},
		{"Sin", elem.Sin, byValue(sin), func(t *testing.T, s api.Span) []int { return peaks(t, s, 1) }},
		{"Cos", elem.Cos, byValue(cos), func(t *testing.T, s api.Span) []int { return peaks(t, s, 0) }},
		{"Atan", elem.Atan, sideOfAtan, never},
		{"Tan", elem.Tan, sideOfTan, never},
		{"Sinh", elem.Sinh, byValue(sinh), never},
		{"Cosh", elem.Cosh, byValue(cosh), func(t *testing.T, s api.Span) []int {
			if must[bool](t)(span.Has(s, api.Dyadic{})) {
				return []int{1}
			}
			return nil
		}},
		{"Asin", elem.Asin, sideOfAsin, never},
		{"Acos", elem.Acos, sideOfAcos, never},
	}
}

// named is the call of that name.
func named(what string) call {
	for _, c := range calls() {
		if c.what == what {
			return c
		}
	}
	panic(what)
}

// sideOf is where the numbers of a stand to y, times factor.
func sideOf(t *testing.T, a api.Span, y api.Dyadic, factor int) int {
	t.Helper()
	return factor * must[int](t)(span.Order(a, only(y)))
}

// byValue is the side of a function whose value the model has.
func byValue(value func(t *testing.T, x api.Dyadic, p int) api.Span) func(t *testing.T, x, y api.Dyadic, p int) int {
	return func(t *testing.T, x, y api.Dyadic, p int) int { return sideOf(t, value(t, x, p), y, 1) }
}

// plain is a span about the sum of each step-th power of x, from the first one
// on, through its factorial; if it is turning, each second one is taken away. x
// is at most 2^top in size. The span is narrower than 2^-p by far.
func plain(t *testing.T, x api.Dyadic, top, first, step int, turning bool, p int) api.Span {
	t.Helper()
	reckon := must[api.Whole](t)
	// All terms together are at most exp 2^top. There are less than 2^30 of them,
	// and each is at most so many times that many steps off.
	places := p + 120 + 2<<max(top, 0)
	factor := steps(t, x, places)
	var total api.Whole
	term := steps(t, of(1, 0), places)
	for n := 0; whole.Sign(term) != 0; n++ {
		switch {
		case n < first || (n-first)%step != 0:
		case turning && (n-first)/step%2 == 1:
			total = reckon(whole.Sub(total, term))
		default:
			total = reckon(whole.Add(total, term))
		}
		term = reckon(whole.Shift(reckon(whole.Mul(term, factor)), -places))
		q, _, e := whole.Quo(term, whole.Of(n+1))
		term = reckon(q, e)
	}
	return about(t, total, places, -(p + 50))
}

// steps is x in steps of 2^-places, rounded down.
func steps(t *testing.T, x api.Dyadic, places int) api.Whole {
	t.Helper()
	moved := must[api.Dyadic](t)(dyadic.Scale(must[api.Dyadic](t)(dyadic.Round(x, -places, api.Down)), places))
	return must[api.Whole](t)(dyadic.Whole(moved, api.Down))
}

// about is the span about so many steps, and 2^pos on both sides.
func about(t *testing.T, n api.Whole, places, pos int) api.Span {
	t.Helper()
	middle := only(api.Dyadic{Man: n, Exp: -places})
	return must[api.Span](t)(span.Add(middle, api.Span{Lo: of(-1, pos), Hi: of(1, pos)}, -far))
}

// topOf is an n so that x is below 2^n in size.
func topOf(t *testing.T, x api.Dyadic) int {
	t.Helper()
	if dyadic.Sign(x) == 0 {
		return 0
	}
	return must[int](t)(dyadic.Top(x)) + 1
}

// exp is exp x: of a number below 0 it is what 1 is through the other one.
func exp(t *testing.T, x api.Dyadic, p int) api.Span {
	t.Helper()
	made := plain(t, size(x), topOf(t, x), 0, 1, false, p)
	if dyadic.Sign(x) >= 0 {
		return made
	}
	return must[api.Span](t)(span.Inverse(made, -(p + 60)))
}

// turn is sine and cosine: of what is 2^k times as great they are found by k
// steps, each of which makes what they are off four times as much.
func turn(t *testing.T, x api.Dyadic, p int) (sine, cosine api.Span) {
	t.Helper()
	k := max(topOf(t, x), 0)
	x = must[api.Dyadic](t)(dyadic.Scale(x, -k))
	places := p + 3*k + 10
	sine, cosine = plain(t, x, 0, 1, 2, true, places), plain(t, x, 0, 0, 2, true, places)
	reckon := must[api.Span](t)
	pos := -(places + 60)
	for range k {
		double := reckon(span.Square(cosine, pos))
		sine = reckon(span.Scale(reckon(span.Mul(sine, cosine, pos)), 1))
		cosine = reckon(span.Sub(reckon(span.Scale(double, 1)), only(of(1, 0)), pos))
	}
	return sine, cosine
}

func sin(t *testing.T, x api.Dyadic, p int) api.Span {
	t.Helper()
	made, _ := turn(t, x, p)
	return made
}

func cos(t *testing.T, x api.Dyadic, p int) api.Span {
	t.Helper()
	_, made := turn(t, x, p)
	return made
}

func sinh(t *testing.T, x api.Dyadic, p int) api.Span {
	t.Helper()
	made := must[api.Span](t)(span.Sub(exp(t, x, p), exp(t, minus(x), p), -far))
	return must[api.Span](t)(span.Scale(made, -1))
}

func cosh(t *testing.T, x api.Dyadic, p int) api.Span {
	t.Helper()
	made := must[api.Span](t)(span.Add(exp(t, x, p), exp(t, minus(x), p), -far))
	return must[api.Span](t)(span.Scale(made, -1))
}

// sideOfTan: the sine is above y cosines, or below, if the cosine is below 0.
func sideOfTan(t *testing.T, x, y api.Dyadic, p int) int {
	t.Helper()
	sine, cosine := turn(t, x, p+max(topOf(t, y), 0))
	least := must[api.Span](t)(span.Mul(cosine, only(y), -far))
	return -must[int](t)(span.Order(least, sine)) * must[int](t)(span.Sign(cosine))
}

// sideOfAtan: beyond a quarter turn nothing is; else the tangents tell.
func sideOfAtan(t *testing.T, x, y api.Dyadic, p int) int {
	t.Helper()
	if side := beyond(t, y, -1, 1, p); side != 0 {
		return side
	}
	sine, cosine := turn(t, y, p)
	tangent := must[api.Span](t)(span.Outward(only(x), -p-50))
	return must[int](t)(span.Order(must[api.Span](t)(span.Mul(cosine, tangent, -far)), sine))
}

// sideOfAsin: likewise, by the sines.
func sideOfAsin(t *testing.T, x, y api.Dyadic, p int) int {
	t.Helper()
	if side := beyond(t, y, -1, 1, p); side != 0 {
		return side
	}
	return sideOf(t, sin(t, y, p), x, -1)
}

// sideOfAcos: likewise, by the cosines, which go down.
func sideOfAcos(t *testing.T, x, y api.Dyadic, p int) int {
	t.Helper()
	if side := beyond(t, y, 0, 2, p); side != 0 {
		return side
	}
	return sideOf(t, cos(t, y, p), x, 1)
}

// beyond is 1 where y is below so many quarter turns, and -1 where it is above
// that many.
func beyond(t *testing.T, y api.Dyadic, low, high, p int) int {
	t.Helper()
	reckon := must[api.Span](t)
	quarter := reckon(span.Scale(reckon(consts.Pi(p)), -1))
	times := func(n int) api.Span { return reckon(span.Mul(quarter, only(of(n, 0)), -far)) }
	switch {
	case must[int](t)(span.Order(only(y), times(low))) < 0:
		return 1
	case must[int](t)(span.Order(only(y), times(high))) > 0:
		return -1
	}
	return 0
}

// quarters is how many quarter turns there are up to x, rounded down.
func quarters(t *testing.T, x api.Dyadic) api.Dyadic {
	t.Helper()
	for p := 100 + max(topOf(t, x), 0); ; p *= 2 {
		half := must[api.Span](t)(consts.Pi(p))
		x := must[api.Dyadic](t)(dyadic.Scale(x, 1))
		low, high := must[api.Dyadic](t)(rounded.Quo(x, half.Hi, 0, api.Down)), must[api.Dyadic](t)(rounded.Quo(x, half.Lo, 0, api.Down))
		if same(low, high) {
			return low
		}
	}
}

// passes: does s have a number that is n quarter turns, n being at by 4?
func passes(t *testing.T, s api.Span, at int) bool {
	t.Helper()
	from, to := quarters(t, s.Lo), quarters(t, s.Hi)
	if dyadic.Sign(s.Lo) != 0 {
		from = add(t, from, of(1, 0))
	}
	// The first one from there on that is at by 4.
	_, rest, e := whole.Euclid(must[api.Whole](t)(whole.Sub(whole.Of(at), must[api.Whole](t)(dyadic.Whole(from, api.Down)))), whole.Of(4))
	first := add(t, from, api.Dyadic{Man: must[api.Whole](t)(rest, e)})
	return compare(t, first, to) <= 0
}

// peaks are the greatest and the least value, as far as s has them, if the
// greatest one is at so many quarter turns.
func peaks(t *testing.T, s api.Span, at int) []int {
	t.Helper()
	var out []int
	if passes(t, s, at) {
		out = append(out, 1)
	}
	if passes(t, s, at+2) {
		out = append(out, -1)
	}
	return out
}

// against is the side of a function at x to y, looked at more and more closely;
// 0 where they look equal.
func (c call) against(t *testing.T, x, y api.Dyadic, p int) int {
	t.Helper()
	for more := 16; more <= mostFiner; more *= 4 {
		if side := c.side(t, x, y, p+more); side != 0 {
			return side
		}
	}
	return 0
}

// want asks for what P13.1 promises of a span that is not refused.
func (c call) want(t *testing.T, s api.Span, p int) {
	t.Helper()
	got, e := c.of(s, p)
	if e != api.OK {
		t.Errorf("%s of %v at %d: error %d", c.what, short(s), p, e)
		return
	}
	c.wantOf(t, got, s, p)
}

// wantOf asks for it of an answer.
func (c call) wantOf(t *testing.T, got, s api.Span, p int) {
	t.Helper()
	for _, end := range []api.Dyadic{got.Lo, got.Hi} {
		if !same(end, canonical(end)) || end.Exp < -(4*p+256) {
			t.Errorf("%s of %v at %d: an end with the exponent %d", c.what, short(s), p, end.Exp)
		}
	}
	// An end is fine on one side of all values, and its counterpart 2^-p nearer
	// to them on the other side of one.
	var past [2]bool
	sides := func(side func(y api.Dyadic) int) {
		if side(got.Lo) < 0 || side(got.Hi) > 0 {
			t.Errorf("%s of %v at %d: %v does not hold all", c.what, short(s), p, short(got))
		}
		past[0] = past[0] || side(add(t, got.Lo, of(1, -p))) <= 0
		past[1] = past[1] || side(add(t, got.Hi, of(-1, -p))) >= 0
	}
	for _, x := range []api.Dyadic{s.Lo, s.Hi} {
		sides(func(y api.Dyadic) int { return c.against(t, x, y, p) })
	}
	for _, value := range c.inside(t, s) {
		sides(func(y api.Dyadic) int { return compare(t, of(value, 0), y) })
	}
	if past != [2]bool{true, true} {
		t.Errorf("%s of %v at %d: %v is too wide: %v", c.what, short(s), p, short(got), past)
	}
}

// wantErr asks for that error, and for nothing beside it.
func wantErr(t *testing.T, what string, got api.Span, e, wanted api.Errno) {
	t.Helper()
	if e != wanted || !sameSpan(got, api.Span{}) {
		t.Errorf("%s: %v, error %d; not error %d", what, short(got), e, wanted)
	}
}
