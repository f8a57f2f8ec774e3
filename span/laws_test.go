package span_test

import (
	"testing"

	"surd/api"
	"surd/dyadic"
	"surd/span"
)

// numbersOf are calls of numbers that the calls of spans must have inside; of a
// quotient or a root a test of its own tells.
func numbersOf() map[string]func(x, y api.Dyadic) (api.Dyadic, api.Errno) {
	pow := func(n int) func(x, y api.Dyadic) (api.Dyadic, api.Errno) {
		return func(x, _ api.Dyadic) (api.Dyadic, api.Errno) { return dyadic.Pow(x, n) }
	}
	return map[string]func(x, y api.Dyadic) (api.Dyadic, api.Errno){
		"Add": dyadic.Add, "Sub": dyadic.Sub, "Mul": dyadic.Mul,
		"Outward": pow(1), "Square": pow(2), "Pow 0": pow(0), "Pow 1": pow(1), "Pow 3": pow(3), "Pow 4": pow(4),
		"Min": dyadic.Min, "Max": dyadic.Max,
		"Neg": func(x, _ api.Dyadic) (api.Dyadic, api.Errno) { return dyadic.Neg(x) },
		"Abs": func(x, _ api.Dyadic) (api.Dyadic, api.Errno) { return dyadic.Abs(x) },
		// One of both is in the hull.
		"Hull": dyadic.Min,
	}
}

// P10.9: what goes in comes out, at every position.
func TestWhatGoesInComesOut(t *testing.T) {
	m := mix(7)
	tried := 0
	for i := range 80 {
		a, b := m.span(t, 1+i%3), m.span(t, 1+i%2)
		for _, c := range append(calls(), sets()...) {
			work := numbersOf()[c.what]
			if work == nil {
				continue
			}
			for _, pos := range places() {
				got := must[api.Span](t)(c.of(a, b, pos))
				tried++
				if d := must[api.Dyadic](t)(work(m.inside(t, a), m.inside(t, b))); !has(t, got, d) {
					t.Errorf("%s of %v and %v at %d has not %v", c.what, a, b, pos, d)
				}
			}
		}
	}
	if tried < 80*9*14 {
		t.Errorf("%d tries alone", tried)
	}
}

// P10.9: quotients and roots: what is told lies so that the product, or the
// square, can be the number again.
func TestQuotientsComeOut(t *testing.T) {
	reckon := must[api.Dyadic](t)
	m := mix(8)
	for i := range 200 {
		a, b := m.span(t, 1+i%3), m.span(t, 1+i%2)
		for _, pos := range places() {
			if root, e := span.Sqrt(a, pos); e == api.OK {
				x := m.inside(t, a)
				if !has(t, from(reckon(dyadic.Mul(root.Lo, root.Lo)), reckon(dyadic.Mul(root.Hi, root.Hi))), x) {
					t.Errorf("the root of %v is not in %v", x, root)
				}
			}
			q, e := span.Quo(a, b, pos)
			if e != api.OK {
				continue
			}
			x, y := m.inside(t, a), m.inside(t, b)
			if back := ordered(t, reckon(dyadic.Mul(q.Lo, y)), reckon(dyadic.Mul(q.Hi, y))); !has(t, back, x) {
				t.Errorf("%v / %v is not in %v", x, y, q)
			}
			inverse := must[api.Span](t)(span.Inverse(b, pos))
			if back := ordered(t, reckon(dyadic.Mul(inverse.Lo, y)), reckon(dyadic.Mul(inverse.Hi, y))); !has(t, back, of(1, 0)) {
				t.Errorf("1 / %v is not in %v", y, inverse)
			}
		}
	}
}

// P10.10: each end is less than a step from what is made of some numbers of the
// arguments, and at the position.
func TestNoWiderThanNeeded(t *testing.T) {
	reckon := must[api.Dyadic](t)
	m := mix(9)
	for i := range 80 {
		a, b := m.span(t, 1+i%3), m.span(t, 1+i%2)
		points := []api.Dyadic{a.Lo, a.Hi}
		if has(t, a, api.Dyadic{}) {
			points = append(points, api.Dyadic{})
		}
		for _, c := range calls() {
			work := numbersOf()[c.what]
			if work == nil {
				continue
			}
			for _, pos := range places() {
				got := must[api.Span](t)(c.of(a, b, pos))
				for _, end := range []api.Dyadic{got.Lo, got.Hi} {
					if dyadic.Sign(end) != 0 && end.Exp < pos {
						t.Errorf("%s: %v is not at %d", c.what, end, pos)
					}
				}
				lo, hi := false, false
				for _, x := range points {
					for _, y := range []api.Dyadic{b.Lo, b.Hi} {
						d := reckon(work(x, y))
						lo = lo || compare(t, reckon(dyadic.Sub(d, got.Lo)), of(1, pos)) < 0
						hi = hi || compare(t, reckon(dyadic.Sub(got.Hi, d)), of(1, pos)) < 0
					}
				}
				if !lo || !hi {
					t.Errorf("%s of %v and %v at %d is too wide: %v", c.what, a, b, pos, got)
				}
			}
		}
	}
}

// narrower draws a span within a.
func (m *mix) narrower(t *testing.T, a api.Span) api.Span {
	return ordered(t, m.inside(t, a), m.inside(t, a))
}

// P10.11: narrower in, narrower out; and so at a lower position.
func TestNarrower(t *testing.T) {
	m := mix(10)
	for i := range 80 {
		a, b := m.span(t, 1+i%3), m.span(t, 1+i%2)
		x, y := m.narrower(t, a), m.narrower(t, b)
		poly := m.list(i%5, 1)
		all := append(calls(), sets()...)
		all = append(all,
			call{what: "Horner", of: func(a, _ api.Span, pos int) (api.Span, api.Errno) { return span.Horner(poly, a, pos) }},
			call{what: "Scale", of: func(a, _ api.Span, _ int) (api.Span, api.Errno) { return span.Scale(a, 40-i) }},
		)
		for _, c := range all {
			for j, pos := range places() {
				wide, e := c.of(a, b, pos)
				narrow, f := c.of(x, y, pos)
				if e != api.OK {
					continue
				}
				if c.what == "Meet" && f == api.ErrSpanApart {
					continue
				}
				if f != api.OK || !within(t, narrow, wide) {
					t.Errorf("%s at %d: %v, error %d, is not within %v", c.what, pos, narrow, f, wide)
				}
				for _, lower := range places()[:j] {
					if exact := must[api.Span](t)(c.of(a, b, lower)); !within(t, exact, wide) {
						t.Errorf("%s at %d is not within that at %d", c.what, lower, pos)
					}
				}
			}
		}
	}
}

// P10.12: Square is within Mul, and begins at 0, if 0 is inside.
func TestSquareIsNotMul(t *testing.T) {
	m := mix(11)
	for i := range 200 {
		a := m.span(t, 1+i%3)
		for _, pos := range places() {
			square, product := must[api.Span](t)(span.Square(a, pos)), must[api.Span](t)(span.Mul(a, a, pos))
			if !within(t, square, product) {
				t.Errorf("the square of %v at %d is not within the product", a, pos)
			}
			if has(t, a, api.Dyadic{}) && dyadic.Sign(square.Lo) != 0 {
				t.Errorf("the square of %v at %d begins at %v", a, pos, square.Lo)
			}
		}
	}
}

// P10.13: less is less; the sign of the difference tells it too.
func TestLessIsLess(t *testing.T) {
	m := mix(12)
	count := [3]int{}
	for i := range 400 {
		a, b := m.span(t, 1+i%3), m.span(t, 1+i%2)
		order := must[int](t)(span.Order(a, b))
		count[order+1]++
		if back := must[int](t)(span.Order(b, a)); back != -order {
			t.Errorf("Order of %v and %v: %d, and %d", a, b, order, back)
		}
		if x, y := m.inside(t, a), m.inside(t, b); order != 0 && compare(t, x, y) != order {
			t.Errorf("Order of %v and %v: %d", a, b, order)
		}
		for _, pos := range places() {
			if sign := must[int](t)(span.Sign(must[api.Span](t)(span.Sub(a, b, pos)))); sign != 0 && sign != order {
				t.Errorf("the sign of %v less %v: %d", a, b, sign)
			}
		}
		if sign := must[int](t)(span.Sign(must[api.Span](t)(span.Sub(a, b, -1000)))); sign != order {
			t.Errorf("the sign of %v less %v, exact: %d", a, b, sign)
		}
	}
	if min(count[0], count[1], count[2]) < 20 {
		t.Errorf("few of some orders: %v", count)
	}
}

// P10.14: meeting and hulls.
func TestMeetingAndHulls(t *testing.T) {
	m := mix(13)
	met := 0
	for i := range 300 {
		a, b := m.span(t, 1+i%3), m.span(t, 1+i%2)
		hull := must[api.Span](t)(span.Hull(a, b))
		if !within(t, a, hull) || !within(t, b, hull) {
			t.Errorf("the hull of %v and %v: %v", a, b, hull)
		}
		meet, e := span.Meet(a, b)
		if isApart := must[int](t)(span.Order(a, b)) != 0; isApart != (e == api.ErrSpanApart) {
			t.Errorf("Meet of %v and %v: error %d", a, b, e)
		}
		if e != api.OK {
			continue
		}
		met++
		if !within(t, meet, a) || !within(t, meet, b) {
			t.Errorf("Meet of %v and %v: %v", a, b, meet)
		}
		for range 5 {
			if x := m.narrower(t, a); within(t, x, b) && !within(t, x, meet) {
				t.Errorf("%v is within %v and %v, but not in %v", x, a, b, meet)
			}
		}
	}
	if met < 50 {
		t.Errorf("%d met alone", met)
	}
}

// P10.15: going back.
func TestGoingBack(t *testing.T) {
	reckon := must[api.Span](t)
	m := mix(14)
	for i := range 200 {
		a := m.span(t, 1+i%3)
		want(t, "Neg of Neg", reckon(span.Neg(reckon(span.Neg(a)))), api.OK, a)
		for _, pos := range places() {
			root := reckon(span.Sqrt(reckon(span.Square(a, pos)), pos))
			if x := m.inside(t, a); !has(t, root, x) && !has(t, root, minus(x)) {
				t.Errorf("the root of the square of %v at %d: %v", a, pos, root)
			}
			inverse, e := span.Inverse(a, pos)
			if e != api.OK {
				continue
			}
			if back, e := span.Inverse(inverse, pos); e == api.OK && !within(t, a, back) {
				t.Errorf("the inverse of the inverse of %v at %d: %v", a, pos, back)
			}
		}
	}
}
