package elem_test

import (
	"testing"

	"surd/api"
	"surd/consts"
	"surd/dyadic"
	"surd/elem"
	"surd/nat"
	"surd/series"
	"surd/span"
	"surd/whole"
)

// Example by example, as far as the document tells numbers.
func TestExamples(t *testing.T) {
	near := func(what string, p int, lo, hi, low, high api.Dyadic) {
		t.Helper()
		got, e := named(what).of(api.Span{Lo: lo, Hi: hi}, p)
		off := of(1, -p+1)
		if e != api.OK || !within(t, got, wider(t, api.Span{Lo: low, Hi: high}, off)) || !within(t, api.Span{Lo: low, Hi: high}, wider(t, got, off)) {
			t.Errorf("%s at %d: %v, error %d", what, p, short(got), e)
		}
	}
	// millionths is about n / 10^6.
	millionths := func(n int) api.Dyadic {
		q, _, e := whole.Near(must[api.Whole](t)(whole.Shift(whole.Of(n), 60)), whole.Of(1000000))
		return api.Dyadic{Man: must[api.Whole](t)(q, e), Exp: -60}
	}
	zero, one := api.Dyadic{}, of(1, 0)
	near("Exp", 10, zero, zero, one, one)
	near("Exp", 10, of(-1, 40), zero, zero, one)
	if got := must[api.Span](t)(elem.Exp(api.Span{Lo: of(-1, 40)}, 10)); dyadic.Sign(got.Lo) > 0 || compare(t, got.Lo, of(-1, -10)) < 0 {
		t.Errorf("Exp of -2^40 to 0: %v", got)
	}
	near("Ln", 20, one, one, zero, zero)
	near("Ln", 20, of(1, 1000), of(1, 1000), millionths(693147181), millionths(693147181))
	near("Sin", 20, zero, of(4, 0), millionths(-756802), one)
	if got := must[api.Span](t)(elem.Sin(api.Span{Hi: of(4, 0)}, 20)); compare(t, got.Hi, one) < 0 || compare(t, got.Hi, add(t, one, of(1, -20))) > 0 {
		t.Errorf("Sin of 0 to 4: %v", got)
	}
	near("Cos", 7, of(-100, 0), of(100, 0), of(-1, 0), one)
	near("Atan", 8, of(-1, 40), of(1, 40), millionths(-1570796), millionths(1570796))
	near("Tan", 20, zero, one, zero, millionths(1557408))
	near("Sinh", 20, of(-1, 0), one, millionths(-1175201), millionths(1175201))
	near("Cosh", 20, of(-1, 0), one, one, millionths(1543081))
	near("Asin", 20, of(-1, 0), one, millionths(-1570796), millionths(1570796))
	for _, c := range []struct {
		what   string
		s      api.Span
		p      int
		wanted api.Errno
	}{
		{"Exp", api.Span{Hi: of(11, 0)}, 10, api.ErrElemWide},
		{"Ln", api.Span{Hi: one}, 10, api.ErrElemDomain},
		// At 5 this is above 2^5: P13.1 says so more plainly than the example.
		{"Cos", api.Span{Lo: of(-100, 0), Hi: of(100, 0)}, 5, api.ErrElemWide},
		{"Tan", api.Span{Lo: one, Hi: of(2, 0)}, 20, api.ErrElemDomain},
		{"Acos", only(of(2, 0)), 20, api.ErrElemDomain},
	} {
		got, e := named(c.what).of(c.s, c.p)
		wantErr(t, c.what, got, e, c.wanted)
	}
}

// P13.1: logarithms of what is as near 0 or as far from it as may be: those of
// the mantissa, and of so many twos.
func TestFarLogarithms(t *testing.T) {
	for _, p := range []int{1, 20, 64, 300} {
		two := must[api.Span](t)(consts.LnTwo(p + 100))
		for _, m := range []int{1, 3, 5, 7, 1<<53 - 1} {
			own := must[api.Span](t)(elem.Ln(only(of(m, 0)), p+20))
			for _, e := range []int{-far, 1 - far, -1 << 39, -12345678901, -5000, 5000, 1 << 35, far - 1, far} {
				held := sum(t, own, product(t, two, only(of(e, 0))))
				got := must[api.Span](t)(elem.Ln(only(of(m, e)), p))
				wantAround(t, "Ln", got, held, p)
				long := api.Dyadic{Man: must[api.Whole](t)(whole.Shift(whole.Of(m), 200)), Exp: e}
				held = sum(t, held, product(t, two, only(of(200, 0))))
				wantAround(t, "Ln", must[api.Span](t)(elem.Ln(only(long), p)), held, p)
			}
		}
	}
}

// wantAround asks that got has all of held, which is far narrower than 2^-p, and
// no end that is farther away than that.
func wantAround(t *testing.T, what string, got, held api.Span, p int) {
	t.Helper()
	if !within(t, held, got) || !within(t, got, wider(t, held, of(1, -p))) {
		t.Errorf("%s at %d: %v about %v", what, p, short(got), short(held))
	}
}

// P13.1: exp of what is far below 0, and the arc tangents of what is far away.
func TestFarNumbers(t *testing.T) {
	for _, p := range []int{1, 2, 20, 64, 300} {
		quarter := must[api.Span](t)(span.Scale(must[api.Span](t)(consts.Pi(p+40)), -1))
		for _, x := range []api.Dyadic{of(1, 20), of(1, 60), of(1, 63), of(1, 64), of(3, far), {Man: api.Whole{Abs: api.Nat{0, 0, 0, 5}}, Exp: far}, of(1, 400)} {
			if x.Exp >= 400 {
				wantAround(t, "Atan", must[api.Span](t)(elem.Atan(only(x), p)), quarter, p)
				wantAround(t, "Atan", must[api.Span](t)(elem.Atan(only(minus(x)), p)), must[api.Span](t)(span.Neg(quarter)), p)
			}
			wantAround(t, "Exp", must[api.Span](t)(elem.Exp(only(minus(x)), p)), only(of(1, -p-400)), p)
			got := must[api.Span](t)(elem.Exp(api.Span{Lo: minus(x), Hi: of(1, -far)}, p))
			if !within(t, api.Span{Lo: of(1, -p-400), Hi: of(1, 0)}, got) || !within(t, got, api.Span{Lo: of(-1, -p), Hi: add(t, of(1, 0), of(1, -p))}) {
				t.Errorf("Exp of -2^%d to 0 at %d: %v", x.Exp, p, short(got))
			}
		}
	}
}

// P13.1: what has more bits than a number may have is a number all the same.
func TestLongNumbers(t *testing.T) {
	const bits = api.MaxBits + 70
	size := must[api.Nat](t)(nat.Left(api.Nat{1}, api.MaxBits-1))
	size = append(size, make(api.Nat, 2)...)
	size[0], size[len(size)-1] = 1, 1<<5
	one := api.Dyadic{Man: api.Whole{Abs: size}, Exp: 1 - nat.Length(size)}
	if nat.Length(size) < bits {
		t.Fatal("the number is not long")
	}
	for _, c := range calls() {
		for _, x := range []api.Dyadic{one, minus(one)} {
			// Half of it is less than 2^-MaxBits more than 1/2.
			x.Exp--
			nearer := of(1, -1)
			nearer.Man.Neg = x.Man.Neg
			if c.what == "Ln" && x.Man.Neg {
				continue
			}
			got := c.at(t, only(x), 30)
			c.wantOf(t, got, only(nearer), 30)
			got = c.at(t, between(t, x, of(3, -2)), 30)
			c.wantOf(t, got, between(t, nearer, of(3, -2)), 30)
		}
	}
	for _, what := range []string{"Asin", "Acos"} {
		got, e := named(what).of(only(one), 30)
		wantErr(t, what+" of a little more than 1", got, e, api.ErrElemDomain)
	}
}

// P13.1: the tangent beside poles: as near as that the next number is beyond.
func TestBesidePoles(t *testing.T) {
	c := named("Tan")
	for _, places := range []int{5, 20, 63, 64, 65, 200, 1000} {
		for _, n := range []int{1, -1, 3, 21, -47, 12345} {
			pole := must[api.Span](t)(span.Mul(must[api.Span](t)(consts.Pi(places)), only(of(n, -1)), -far))
			for _, p := range []int{15, 64} {
				got, e := c.of(pole, p)
				wantErr(t, "Tan over a pole", got, e, api.ErrElemDomain)
				for _, x := range []api.Dyadic{pole.Lo, pole.Hi} {
					c.want(t, only(x), p)
				}
				c.wantEither(t, api.Span{Lo: add(t, pole.Lo, of(-1, -1)), Hi: pole.Lo}, p)
				c.wantEither(t, api.Span{Lo: pole.Hi, Hi: add(t, pole.Hi, of(3, -1))}, p)
			}
		}
	}
}

// P13.1: so many places that the arguments are taken to pieces.
func TestLongPlaces(t *testing.T) {
	const p, finer = 70000, 40
	scale := func(a api.Span, k int) api.Span { return must[api.Span](t)(span.Scale(a, k)) }
	third := must[api.Span](t)(span.Quo(only(of(1, 0)), only(of(3, 0)), -p-200)).Lo
	for _, x := range []api.Dyadic{third, minus(third), of(3, -3), {}} {
		at := func(what string) api.Span { return named(what).at(t, only(x), p) }
		sine, cosine := must[api.Span](t)(series.Sin(x, p+finer)), must[api.Span](t)(series.Cos(x, p+finer))
		up, down := must[api.Span](t)(series.Exp(x, p+finer)), must[api.Span](t)(series.Exp(minus(x), p+finer))
		wantAround(t, "Sin", at("Sin"), sine, p)
		wantAround(t, "Cos", at("Cos"), cosine, p)
		wantAround(t, "Tan", at("Tan"), must[api.Span](t)(span.Quo(sine, cosine, -p-finer)), p)
		wantAround(t, "Exp", at("Exp"), up, p)
		wantAround(t, "Sinh", at("Sinh"), scale(difference(t, up, down), -1), p)
		wantAround(t, "Cosh", at("Cosh"), scale(sum(t, up, down), -1), p)
		wantAround(t, "Atan", at("Atan"), must[api.Span](t)(series.Atan(x, p+finer)), p)
		if dyadic.Sign(x) == 0 {
			continue
		}
		// The arcs go back to where they came from: neither function is steep here.
		back := must[api.Span](t)(elem.Asin(sine, p))
		wantAround(t, "Asin", back, only(x), p-1)
		back = must[api.Span](t)(elem.Acos(cosine, p))
		wantAround(t, "Acos", back, only(size(x)), p-3)
		wantAround(t, "Ln", must[api.Span](t)(elem.Ln(up, p)), only(x), p-1)
	}
}

// P13.1: the greatest p, at numbers whose values are known.
func TestMostPlaces(t *testing.T) {
	zero, one := only(api.Dyadic{}), only(of(1, 0))
	for _, c := range calls() {
		switch c.what {
		case "Exp", "Cos", "Cosh":
			wantAround(t, c.what, c.at(t, zero, most), one, most)
		case "Ln":
			wantAround(t, c.what, c.at(t, one, most), zero, most)
		case "Acos":
		default:
			wantAround(t, c.what, c.at(t, zero, most), zero, most)
		}
	}
	wantAround(t, "Exp", must[api.Span](t)(elem.Exp(one, most)), must[api.Span](t)(consts.E(most+20)), most)
	wantAround(t, "Acos", must[api.Span](t)(elem.Acos(zero, most)), must[api.Span](t)(span.Scale(must[api.Span](t)(consts.Pi(most+20)), -1)), most)
}
