package elem_test

import (
	"testing"

	"surd/api"
	"surd/consts"
	"surd/dyadic"
	"surd/elem"
	"surd/span"
)

// at is what a call answers, where it may not be refused.
func (c call) at(t *testing.T, s api.Span, p int) api.Span {
	t.Helper()
	got, e := c.of(s, p)
	if e != api.OK {
		t.Fatalf("%s of %v at %d: error %d", c.what, short(s), p, e)
	}
	return got
}

// wider is s with so much more on both sides.
func wider(t *testing.T, s api.Span, by api.Dyadic) api.Span {
	t.Helper()
	return api.Span{Lo: add(t, s.Lo, minus(by)), Hi: add(t, s.Hi, by)}
}

func product(t *testing.T, a, b api.Span) api.Span {
	t.Helper()
	return must[api.Span](t)(span.Mul(a, b, -far))
}

func sum(t *testing.T, a, b api.Span) api.Span {
	t.Helper()
	return must[api.Span](t)(span.Add(a, b, -far))
}

func difference(t *testing.T, a, b api.Span) api.Span {
	t.Helper()
	return must[api.Span](t)(span.Sub(a, b, -far))
}

func square(t *testing.T, a api.Span) api.Span {
	t.Helper()
	return must[api.Span](t)(span.Square(a, -far))
}

// width is Hi less Lo.
func width(t *testing.T, a api.Span) api.Dyadic {
	t.Helper()
	return must[api.Dyadic](t)(span.Width(a))
}

// P13.2: of four numbers the inner two's answer lies within the outer two's, and
// 2^-p more.
func TestNarrower(t *testing.T) {
	m := mix(132)
	for _, c := range calls() {
		for _, p := range someplaces() {
			for range 30 {
				outer := between(t, c.draw(t, &m, p), c.draw(t, &m, p))
				middle := must[api.Dyadic](t)(span.Middle(outer))
				for _, inner := range []api.Span{only(outer.Lo), only(middle), {Lo: outer.Lo, Hi: middle}, {Lo: middle, Hi: outer.Hi}} {
					whole, e := c.of(outer, p)
					if e == api.ErrElemDomain && c.what == "Tan" {
						continue
					}
					part := c.at(t, inner, p)
					if e != api.OK || !within(t, part, wider(t, whole, of(1, -p))) {
						t.Errorf("%s at %d: %v of %v is not within %v of %v", c.what, p, short(part), short(inner), short(whole), short(outer))
					}
				}
			}
		}
	}
}

// P13.3: of one number the answer is at most 2^(1-p) wide. P13.4: where sine,
// cosine, exp and arc tangent lie.
func TestWhere(t *testing.T) {
	m := mix(133)
	for _, c := range calls() {
		for _, p := range someplaces() {
			most := api.Dyadic{}
			switch c.what {
			case "Sin", "Cos":
				most = add(t, of(1, 0), of(1, -p))
			case "Atan":
				most = add(t, of(2, 0), of(1, -p))
			}
			args := c.edges(t, p)
			for range 20 {
				args = append(args, c.draw(t, &m, p))
			}
			for _, x := range args {
				got := c.at(t, only(x), p)
				if compare(t, width(t, got), of(1, 1-p)) > 0 {
					t.Errorf("%s of %v at %d: %v is too wide", c.what, x, p, short(got))
				}
				if dyadic.Sign(most) > 0 && !within(t, got, api.Span{Lo: minus(most), Hi: most}) {
					t.Errorf("%s of %v at %d: %v is beyond %v", c.what, x, p, short(got), most)
				}
				if c.what == "Exp" && dyadic.Sign(got.Hi) <= 0 {
					t.Errorf("Exp of %v at %d: %v", x, p, short(got))
				}
				if c.what == "Cosh" && compare(t, got.Hi, of(1, 0)) < 0 {
					t.Errorf("Cosh of %v at %d: %v", x, p, short(got))
				}
			}
		}
	}
}

// P13.5: Ln of Exp's answer holds the span, also at other places.
func TestLnOfExp(t *testing.T) {
	m := mix(135)
	for _, p := range someplaces() {
		for range 60 {
			s := between(t, named("Exp").draw(t, &m, p), named("Exp").draw(t, &m, p))
			up := must[api.Span](t)(elem.Exp(s, p))
			if dyadic.Sign(up.Lo) <= 0 {
				continue
			}
			for _, q := range []int{1, p, 2*p + 9} {
				if back := must[api.Span](t)(elem.Ln(up, q)); !within(t, s, back) {
					t.Errorf("at %d and %d: %v does not hold %v", p, q, short(back), short(s))
				}
			}
		}
	}
}

// P13.6: tangent times cosine holds a sine; arc sine and arc cosine are a
// quarter turn together.
func TestTogether(t *testing.T) {
	m := mix(136)
	for _, p := range someplaces() {
		quarter := must[api.Span](t)(span.Scale(must[api.Span](t)(consts.Pi(p+40)), -1))
		for range 40 {
			x := named("Sin").draw(t, &m, p)
			s := between(t, x, add(t, x, minus(of(dyadic.Sign(x)*m.below(300), -9))))
			if tangent, e := elem.Tan(s, p); e == api.OK {
				cosine := must[api.Span](t)(elem.Cos(s, p))
				if made := product(t, tangent, cosine); !within(t, sin(t, s.Lo, p+16), made) {
					t.Errorf("Tan and Cos of %v at %d: %v", short(s), p, short(made))
				}
			}
			x = named("Asin").draw(t, &m, p)
			if made := sum(t, must[api.Span](t)(elem.Asin(only(x), p)), must[api.Span](t)(elem.Acos(only(x), p))); !within(t, quarter, made) {
				t.Errorf("Asin and Acos of %v at %d: %v", x, p, short(made))
			}
		}
	}
}

// G8: the known laws, at numbers.
func TestLaws(t *testing.T) {
	m := mix(8)
	one := only(of(1, 0))
	for _, p := range someplaces() {
		for range 40 {
			x, y := m.number(3, 2), m.number(3, 2)
			if p < 16 {
				x, y = m.number(-1, 2), m.number(-1, 2)
			}
			at := func(what string, x api.Dyadic) api.Span { return named(what).at(t, only(x), p) }
			if made := sum(t, square(t, at("Sin", x)), square(t, at("Cos", x))); !within(t, one, made) {
				t.Errorf("the squares of %v at %d: %v", x, p, short(made))
			}
			if made := difference(t, square(t, at("Cosh", x)), square(t, at("Sinh", x))); !within(t, one, made) {
				t.Errorf("the hyperbolic squares of %v at %d: %v", x, p, short(made))
			}
			if !meet(t, at("Exp", x), sum(t, at("Cosh", x), at("Sinh", x))) {
				t.Errorf("Exp, Cosh and Sinh of %v at %d", x, p)
			}
			if !meet(t, at("Exp", add(t, x, y)), product(t, at("Exp", x), at("Exp", y))) {
				t.Errorf("Exp of %v and %v at %d", x, y, p)
			}
			if both := must[api.Dyadic](t)(dyadic.Mul(x, x)); dyadic.Sign(x) != 0 && !meet(t, at("Ln", both), sum(t, at("Ln", size(x)), at("Ln", size(x)))) {
				t.Errorf("Ln of %v at %d", x, p)
			}
			if turned := sum(t, product(t, at("Sin", x), at("Cos", y)), product(t, at("Cos", x), at("Sin", y))); !meet(t, at("Sin", add(t, x, y)), turned) {
				t.Errorf("Sin of %v and %v at %d", x, y, p)
			}
			if back, e := elem.Tan(at("Atan", x), p); e == api.OK && !within(t, only(x), back) {
				t.Errorf("Tan of Atan of %v at %d: %v", x, p, short(back))
			}
		}
	}
}
