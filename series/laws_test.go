package series_test

import (
	"testing"

	"surd/api"
	"surd/dyadic"
	"surd/rounded"
	"surd/series"
	"surd/span"
)

// below is a position at which no sum or product of the spans here is rounded.
const below = -1 << 22

// add and mul are sums and products of spans, as they are.
func add(t *testing.T, a, b api.Span) api.Span {
	t.Helper()
	return must[api.Span](t)(span.Add(a, b, below))
}

func mul(t *testing.T, a, b api.Span) api.Span {
	t.Helper()
	return must[api.Span](t)(span.Mul(a, b, below))
}

// times is a span n times.
func times(t *testing.T, n int, a api.Span) api.Span {
	t.Helper()
	return mul(t, only(of(n, 0)), a)
}

// P11.3: two spans for the same number have a number in common.
func TestSpansOfOneNumberMeet(t *testing.T) {
	m := mix(3)
	reckon := must[api.Span](t)
	places := []int{1, 2, 9, 63, 64, 65, 200, 512, 1000, 3000, 20000}
	for _, c := range calls() {
		for i := range 12 {
			x := m.near(c.top, 1+60*(i%3))
			var l []api.Span
			for _, p := range places {
				l = append(l, reckon(c.of(x, p)))
			}
			for j, a := range l {
				for k, b := range l {
					if !meet(t, a, b) {
						t.Errorf("%s of %v at %d and at %d are apart", c.what, short(only(x)).Lo, places[j], places[k])
					}
				}
			}
		}
	}
}

// P11.3: so of Part, whose number is no dyadic.
func TestPartsMeet(t *testing.T) {
	reckon := must[api.Span](t)
	for _, hyperbolic := range []bool{false, true} {
		for _, k := range []int{2, 3, 10, 239, 1 << 20} {
			wide := reckon(series.Part(k, hyperbolic, 30000))
			for _, p := range []int{1, 7, 64, 300, 5000} {
				if !meet(t, wide, reckon(series.Part(k, hyperbolic, p))) {
					t.Errorf("Part of %d at %d and at 30000 are apart", k, p)
				}
			}
		}
	}
}

// P11.4: at 0.
func TestAtZero(t *testing.T) {
	for _, c := range calls() {
		for _, x := range []api.Dyadic{{}, of(0, far), of(0, -far), above(api.Nat{0, 0, 0}, 5), minus(of(0, 1))} {
			for _, p := range []int{1, 2, 63, 64, 1000, 100000, most} {
				got, e := c.of(x, p)
				wantGood(t, c.what+"(0)", got, e, p, only(of(c.atZero, 0)))
			}
		}
	}
}

// P11.5: squares of sine and cosine, and Exp there and back.
func TestSumsOfSquares(t *testing.T) {
	m := mix(4)
	reckon := must[api.Span](t)
	one := only(of(1, 0))
	for i := range 150 {
		x, p := m.near(0, 1+i%4), 1+m.below(700)
		if i < 3 {
			x, p = of(1-i, 0), 30000
		}
		s, c := reckon(series.Sin(x, p)), reckon(series.Cos(x, p))
		if !within(t, one, add(t, mul(t, s, s), mul(t, c, c))) {
			t.Errorf("the squares of sine and cosine of %v at %d", short(only(x)).Lo, p)
		}
		if !within(t, one, mul(t, reckon(series.Exp(x, p)), reckon(series.Exp(minus(x), p)))) {
			t.Errorf("Exp of %v at %d there and back", short(only(x)).Lo, p)
		}
	}
}

// P11.5: Atanh at 1/3, as near as a dyadic comes to it, and Part of 3. The ends
// lie half of 2^-p off: so it may be a 1/3 that is rounded at p itself.
func TestAtanhMeetsPart(t *testing.T) {
	for _, p := range []int{1, 2, 30, 31, 64, 65, 500, 3001} {
		for _, mode := range []api.Mode{api.Down, api.Up, api.Near} {
			wantMeetsPart(t, 3, p, -p-1, mode)
			wantMeetsPart(t, 3, p, -2*p-64, mode)
			for _, k := range []int{2, 5, 7, 1000, 1 << 20} {
				wantMeetsPart(t, k, p, -2*p-64, mode)
			}
		}
		wantMeetsPart(t, 3, p, -p, api.Down)
	}
}

// wantMeetsPart asks that Atan and Atanh, at 1/k rounded to a position, and Part
// meet.
func wantMeetsPart(t *testing.T, k, p, pos int, mode api.Mode) {
	t.Helper()
	reckon := must[api.Span](t)
	x := must[api.Dyadic](t)(rounded.Ratio(api.Ratio{Num: of(1, 0).Man, Den: api.Nat{uint64(k)}}, pos, mode))
	if !meet(t, reckon(series.Atanh(x, p)), reckon(series.Part(k, true, p))) {
		t.Errorf("Atanh at 1/%d, rounded to %d, at %d", k, pos, p)
	}
	if !meet(t, reckon(series.Atan(x, p)), reckon(series.Part(k, false, p))) {
		t.Errorf("Atan at 1/%d, rounded to %d, at %d", k, pos, p)
	}
}

// Odd and even: what is known of -x.
func TestOddAndEven(t *testing.T) {
	m := mix(5)
	reckon := must[api.Span](t)
	for _, c := range calls()[1:] {
		for i := range 40 {
			x, p := m.near(c.top, 1+i%4), 1+m.below(900)
			a, b := reckon(c.of(x, p)), reckon(c.of(minus(x), p))
			if c.odd {
				b = reckon(span.Neg(b))
			}
			if !meet(t, a, b) {
				t.Errorf("%s of %v at %d, and of its negative", c.what, short(only(x)).Lo, p)
			}
		}
	}
}

// G8: a quarter of pi by three sums of arcs, the logarithm of 2 by two.
func TestSumsOfArcs(t *testing.T) {
	part := func(k int, hyperbolic bool, p int) api.Span {
		return must[api.Span](t)(series.Part(k, hyperbolic, p))
	}
	for _, p := range []int{5, 64, 1000, 10000, 120000} {
		quarter := add(t, part(2, false, p), part(3, false, p))
		machin := add(t, times(t, 4, part(5, false, p)), times(t, -1, part(239, false, p)))
		gauss := add(t, times(t, 12, part(18, false, p)), add(t, times(t, 8, part(57, false, p)), times(t, -5, part(239, false, p))))
		if !meet(t, quarter, machin) || !meet(t, machin, gauss) || !meet(t, gauss, quarter) {
			t.Errorf("a quarter of pi at %d", p)
		}
		two := times(t, 2, part(3, true, p))
		three := add(t, times(t, 18, part(26, true, p)), add(t, times(t, -2, part(4801, true, p)), times(t, 8, part(8749, true, p))))
		if !meet(t, two, three) {
			t.Errorf("the logarithm of 2 at %d", p)
		}
	}
}

// G8: exp of the logarithm of 2 is 2, and the tangent of Atan's is x.
func TestThereAndBack(t *testing.T) {
	reckon := must[api.Span](t)
	for _, p := range []int{20, 100, 1000, 10000, 100000} {
		log := times(t, 2, reckon(series.Part(3, true, p)))
		two := reckon(span.Hull(reckon(series.Exp(log.Lo, p)), reckon(series.Exp(log.Hi, p))))
		if !within(t, only(of(2, 0)), two) {
			t.Errorf("exp of the logarithm of 2 at %d", p)
		}
		for _, x := range []api.Dyadic{of(1, -1), of(-3, -3), above(ones(p), -p-1)} {
			arc := reckon(series.Atan(x, p))
			// Sine and cosine at another number of the span differ by its width.
			wide := api.Span{Lo: of(-1, -p), Hi: of(1, -p)}
			s := add(t, wide, reckon(series.Sin(arc.Lo, p)))
			c := add(t, wide, reckon(series.Cos(arc.Lo, p)))
			if !meet(t, s, mul(t, only(x), c)) {
				t.Errorf("the tangent of Atan at %d", p)
			}
		}
	}
}

// G8: exp of a sum, sine and cosine of twice a number.
func TestSumsAndDoubles(t *testing.T) {
	m := mix(6)
	reckon, number := must[api.Span](t), must[api.Dyadic](t)
	for i := range 60 {
		x, y, p := m.near(-1, 1+i%4), m.near(-1, 1+i%3), 1+m.below(1200)
		sum := reckon(series.Exp(number(dyadic.Add(x, y)), p))
		if !meet(t, sum, mul(t, reckon(series.Exp(x, p)), reckon(series.Exp(y, p)))) {
			t.Errorf("exp of a sum at %d", p)
		}
		twice := number(dyadic.Scale(x, 1))
		s, c := reckon(series.Sin(x, p)), reckon(series.Cos(x, p))
		if !meet(t, reckon(series.Sin(twice, p)), times(t, 2, mul(t, s, c))) {
			t.Errorf("the sine of a double at %d", p)
		}
		if !meet(t, reckon(series.Cos(twice, p)), add(t, mul(t, c, c), times(t, -1, mul(t, s, s)))) {
			t.Errorf("the cosine of a double at %d", p)
		}
	}
}
