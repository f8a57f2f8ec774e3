package elem_test

import (
	"testing"

	"surd/api"
	"surd/consts"
	"surd/dyadic"
	"surd/span"
)

// someplaces are those that the tests of many arguments ask for.
func someplaces() []int {
	return []int{1, 2, 3, 4, 5, 8, 10, 20, 31, 53, 56, 57, 64, 65, 100, 128, 200, 333}
}

// edges are the arguments at which something begins or ends, as far as p lets
// them be.
func (c call) edges(t *testing.T, p int) []api.Dyadic {
	t.Helper()
	small := []api.Dyadic{{}, of(1, -far), of(3, -p), of(1, -p-2), of(7, -p-9), of(1, -2*p-17), of(1, -2), of(3, -3), of(1, -1), of(5, -3), of(3, -2), of(1, 0)}
	low, high := api.Dyadic{}, of(p, 0)
	switch c.what {
	case "Exp":
		low = of(-p-70, 0)
		small = append(small, of(p+1, 0), of(p+2, 0), of(2*p+5, -1), of(2*p+3, 0), of(p+60, 0))
	case "Ln":
		low, high = of(1, -300), of(1, 300)
		small = append(small, of(4, -2), of(3, -1), of(9, -3), of(2, 0), of(3, 0), of(1<<40, 0), add(t, of(1, 0), of(1, -p-20)), add(t, of(1, 0), of(-1, -p-20)))
	case "Sin", "Cos", "Tan":
		low, high = of(-1, min(p, 12)), of(1, min(p, 12))
		small = append(small, of(5, -2), of(13, -3), of(25, -4), of(2, 0), of(3, 0), of(25, -3), of(11, 0), of(22, 0), of(33, 0), of(44, 0), of(355, 0), of(710, 0), high)
	case "Atan":
		low, high = of(-1, far/2), of(1, far/2)
		small = append(small, of(2, 0), of(3, 0), of(17, -3), of(1, p), of(1, p+2), of(1, p+3), of(1, p+4), of(1, 5*p), high)
	case "Sinh", "Cosh":
		low = of(-p, 0)
		small = append(small, of(2, 0), high)
	case "Asin", "Acos":
		low, high = of(-1, 0), of(1, 0)
		small = append(small, add(t, high, of(-1, -p)), add(t, high, of(-1, -2*p)), add(t, high, of(-1, -2*p-9)), add(t, high, of(-1, -5*p-90)), add(t, high, of(-1, -p/2)))
	}
	var out []api.Dyadic
	for _, x := range small {
		for _, x := range []api.Dyadic{x, minus(x)} {
			if compare(t, low, x) <= 0 && compare(t, x, high) <= 0 {
				out = append(out, x)
			}
		}
	}
	return out
}

// draw is some argument that p lets be.
func (c call) draw(t *testing.T, m *mix, p int) api.Dyadic {
	t.Helper()
	limbs := 1 + m.below(4)
	switch c.what {
	case "Exp":
		if x := m.number(m.below(9)-1, limbs); compare(t, x, of(p, 0)) <= 0 {
			return x
		}
	case "Ln":
		if x := size(m.number(m.below(200)-100, limbs)); dyadic.Sign(x) > 0 {
			return x
		}
		return of(1, 0)
	case "Sin", "Cos", "Tan":
		x := m.number(min(p, m.below(13)), limbs)
		if m.below(4) == 0 {
			// Beside a quarter turn.
			half := must[api.Span](t)(consts.Pi(8 + m.below(100)))
			x = must[api.Dyadic](t)(dyadic.Mul(of(m.below(100)-50, -1), half.Lo))
		}
		if compare(t, size(x), of(1, p)) <= 0 {
			return x
		}
	case "Atan":
		return m.number(m.below(2*p)-p/2, limbs)
	case "Sinh", "Cosh":
		if x := m.number(m.below(9)-1, limbs); compare(t, size(x), of(p, 0)) <= 0 {
			return x
		}
	default:
		x := m.number(0, limbs)
		if m.below(4) == 0 {
			return add(t, of(1, 0), minus(size(x)))
		}
		return x
	}
	return m.number(0, limbs)
}

// wantEither asks for what P13.1 promises, where only the tangent may be refused.
func (c call) wantEither(t *testing.T, s api.Span, p int) {
	t.Helper()
	if c.what == "Tan" && (passes(t, s, 1) || passes(t, s, 3)) {
		got, e := c.of(s, p)
		wantErr(t, "Tan over a pole", got, e, api.ErrElemDomain)
		return
	}
	c.want(t, s, p)
}

// P13.1: at all edges, and from each of them to each other one.
func TestEdges(t *testing.T) {
	for _, c := range calls() {
		for _, p := range []int{1, 5, 64} {
			edges := c.edges(t, p)
			for i, x := range edges {
				for _, y := range edges[i:] {
					c.wantEither(t, between(t, x, y), p)
				}
			}
		}
	}
}

// P13.1: at drawn numbers, and from some to others.
func TestDrawn(t *testing.T) {
	m := mix(13)
	for _, c := range calls() {
		for _, p := range someplaces() {
			for range 40 {
				x := c.draw(t, &m, p)
				c.wantEither(t, only(x), p)
				y := c.draw(t, &m, p)
				c.wantEither(t, between(t, x, y), p)
			}
		}
	}
}

// P13.1: at more places, where the parts that depend on their number are more.
func TestManyPlaces(t *testing.T) {
	m := mix(131)
	for _, c := range calls() {
		for _, p := range []int{500, 1000, 3000} {
			x, y := c.draw(t, &m, p), c.draw(t, &m, p)
			c.wantEither(t, only(x), p)
			c.wantEither(t, between(t, x, y), p)
		}
	}
}

// P13.1: a greatest and a least value just within a span, and just outside.
func TestPeaks(t *testing.T) {
	for _, c := range []call{named("Sin"), named("Cos"), named("Tan")} {
		for _, p := range []int{6, 30, 64} {
			for n := -9; n <= 9; n++ {
				for _, places := range []int{3, p / 2, p, p + 3, p + 20, 3 * p} {
					beside := must[api.Span](t)(span.Mul(must[api.Span](t)(consts.Pi(places)), only(of(n, -1)), -far))
					wide := api.Span{Lo: add(t, beside.Lo, of(-1, -1)), Hi: add(t, beside.Hi, of(1, -2))}
					for _, s := range []api.Span{
						beside, wide, only(beside.Lo), only(beside.Hi),
						{Lo: wide.Lo, Hi: beside.Lo}, {Lo: wide.Lo, Hi: beside.Hi}, {Lo: beside.Hi, Hi: wide.Hi}, {Lo: beside.Lo, Hi: wide.Hi},
					} {
						c.wantEither(t, s, p)
					}
				}
			}
		}
	}
}

// P13.1: spans that pass more and more quarter turns.
func TestWideTurns(t *testing.T) {
	for _, c := range []call{named("Sin"), named("Cos"), named("Tan")} {
		for lo := -20; lo < 20; lo++ {
			for wide := 0; wide < 60; wide++ {
				c.wantEither(t, between(t, of(lo, -1), of(lo+wide, -2+wide%2)), 6)
			}
		}
	}
}

// P13.1: arguments as great as may be, and those of greatest length.
func TestGreat(t *testing.T) {
	for _, p := range []int{1, 2, 7, 64, 200, 400} {
		for _, c := range []call{named("Sin"), named("Cos"), named("Tan")} {
			for _, x := range []api.Dyadic{of(1, p), of(-1, p), add(t, of(1, p), of(-1, -3*p)), add(t, of(1, p), of(-3, -2))} {
				c.wantEither(t, only(x), p)
				nearer := minus(of(dyadic.Sign(x), -2))
				c.wantEither(t, between(t, x, add(t, x, nearer)), p)
			}
			c.wantEither(t, api.Span{Lo: of(-1, p), Hi: of(1, p)}, p)
		}
		for _, c := range []call{named("Exp"), named("Sinh"), named("Cosh")} {
			for _, x := range []api.Dyadic{of(p, 0), of(-p, 0), add(t, of(p, 0), of(-1, -3*p)), of(2*p-1, -1)} {
				c.want(t, only(x), p)
				c.want(t, between(t, minus(x), x), p)
			}
		}
	}
}
