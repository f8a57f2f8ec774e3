package span_test

import (
	"math"
	"testing"

	"surd/api"
	"surd/dyadic"
	"surd/span"
)

// polynomial is a list of small numbers as dyadics.
func polynomial(l ...int) []api.Dyadic {
	var out []api.Dyadic
	for _, n := range l {
		out = append(out, of(n, 0))
	}
	return out
}

// list draws so many numbers.
func (m *mix) list(n, limbs int) []api.Dyadic {
	out := make([]api.Dyadic, n)
	for i := range out {
		out[i] = m.dyadic(limbs)
	}
	return out
}

// times, plus, whole are what Horner's rule is made of, by ints.
func (f fraction) times(g fraction) fraction { return fraction{f.n * g.n, f.d * g.d} }

func (f fraction) plus(g fraction) fraction { return fraction{f.n*g.d + g.n*f.d, f.d * g.d} }

// at is b, outward at a position that is not above 0.
func (b bounds) at(pos int) bounds {
	return bounds{lo: fraction{b.lo.steps(pos, false), 1 << -pos}, hi: fraction{b.hi.steps(pos, true), 1 << -pos}}
}

func (b bounds) times(c bounds) bounds {
	return boundsOf(b.lo.times(c.lo), b.lo.times(c.hi), b.hi.times(c.lo), b.hi.times(c.hi))
}

func (b bounds) plus(c bounds) bounds { return bounds{lo: b.lo.plus(c.lo), hi: b.hi.plus(c.hi)} }

// horner is Horner's rule, by ints.
func horner(c []int, x bounds, pos int) bounds {
	v := boundsOf(fraction{0, 1})
	for i := len(c) - 1; i >= 0; i-- {
		v = v.times(x).at(pos).plus(boundsOf(fraction{c[i], 1})).at(pos)
	}
	return v
}

// centred is the centred form, by ints.
func centred(c []int, x bounds, pos int) bounds {
	m := x.lo.plus(x.hi).times(fraction{1, 2})
	var d []int
	for i := 1; i < len(c); i++ {
		d = append(d, i*c[i])
	}
	way := x.plus(boundsOf(fraction{-m.n, m.d})).at(pos)
	slope := horner(d, x, pos).times(way).at(pos)
	return horner(c, boundsOf(m), pos).plus(slope).at(pos)
}

// P10.16: polynomials with small numbers on spans of halves, by ints.
func TestPolynomialsOfHalves(t *testing.T) {
	for _, c := range [][]int{nil, {}, {0}, {5}, {0, 1}, {-3, 2}, {-2, 0, 1}, {1, -3, 0, 2}, {0, 0, 0, 1}, {7, -1, -1, 0}, {1, 1, -1, 1, 2}} {
		for _, a := range halves(5) {
			x := bounds{fraction{a[0], 2}, fraction{a[1], 2}}
			for pos := -5; pos <= 0; pos++ {
				got, e := span.Horner(polynomial(c...), halfSpan(a), pos)
				want(t, "Horner", got, e, horner(c, x, pos).outward(pos))
				got, e = span.Centred(polynomial(c...), halfSpan(a), pos)
				want(t, "Centred", got, e, centred(c, x, pos).outward(pos))
			}
		}
	}
}

// P10.16: drawn ones, by the calls that the chapter names.
func TestPolynomials(t *testing.T) {
	reckon, number := must[api.Span](t), must[api.Dyadic](t)
	rule := func(c []api.Dyadic, x api.Span, pos int) api.Span {
		var v api.Span
		for i := range c {
			v = reckon(span.Add(reckon(span.Mul(v, x, pos)), reckon(span.Point(c[len(c)-1-i])), pos))
		}
		return v
	}
	m := mix(3)
	for i := range 60 {
		c, x := m.list(i%9, 1+i%2), m.span(t, 1)
		for _, pos := range []int{-200, -70, -3, 0, 66} {
			got, e := span.Horner(c, x, pos)
			want(t, "Horner", got, e, rule(c, x, pos))
			middle := only(number(span.Middle(x)))
			var d []api.Dyadic
			for j := 1; j < len(c); j++ {
				d = append(d, number(dyadic.Mul(dyadic.Of(j), c[j])))
			}
			more := reckon(span.Mul(rule(d, x, pos), reckon(span.Sub(x, middle, pos)), pos))
			got, e = span.Centred(c, x, pos)
			want(t, "Centred", got, e, reckon(span.Add(rule(c, middle, pos), more, pos)))
		}
	}
	ones := make([]api.Dyadic, 1000)
	for i := range ones {
		ones[i] = of(1, 0)
	}
	got, e := span.Horner(ones, ints(-1, 1), 0)
	want(t, "1000 numbers", got, e, ints(-998, 1000))
	got, e = span.Centred(ones, ints(1, 1), 0)
	want(t, "1000 numbers", got, e, ints(1000, 1000))
}

// polynomialCalls are those of a polynomial, a span and a position.
func polynomialCalls() map[string]func(c []api.Dyadic, x api.Span, pos int) (api.Span, api.Errno) {
	return map[string]func(c []api.Dyadic, x api.Span, pos int) (api.Span, api.Errno){
		"Horner": span.Horner, "Centred": span.Centred,
		"Zeros": func(c []api.Dyadic, x api.Span, pos int) (api.Span, api.Errno) {
			l, e := span.Zeros(c, x, pos, 5)
			if len(l) > 0 && e != api.OK {
				return l[0], -1
			}
			return api.Span{}, e
		},
	}
}

// P10.16, P10.17: the order of what is wrong with the arguments.
func TestPolynomialFaults(t *testing.T) {
	many, wrong := make([]api.Dyadic, 1001), of(0, far+1)
	many[3] = wrong
	for what, call := range polynomialCalls() {
		for _, c := range []struct {
			c    []api.Dyadic
			x    api.Span
			pos  int
			want api.Errno
		}{
			{many, ints(1, 0), far + 1, api.ErrArg},
			{many[:1000], ints(1, 0), far + 1, api.ErrDyadicExp},
			{[]api.Dyadic{of(1, 0), of(1, math.MinInt)}, ints(1, 0), far + 1, api.ErrDyadicExp},
			{nil, from(of(3, 0), wrong), far + 1, api.ErrDyadicExp},
			{nil, from(wrong, of(3, 0)), far + 1, api.ErrDyadicExp},
			{nil, ints(1, 0), far + 1, api.ErrSpanOrder},
			{polynomial(1, 2), ints(1, 0), 0, api.ErrSpanOrder},
			{nil, ints(0, 1), far + 1, api.ErrArg},
			{polynomial(1, 2), ints(0, 1), math.MinInt, api.ErrArg},
		} {
			got, e := call(c.c, c.x, c.pos)
			wantErr(t, what, got, e, c.want)
		}
	}
	for _, most := range []int{0, -1, 1001, math.MinInt, math.MaxInt} {
		for _, c := range []struct {
			c    []api.Dyadic
			x    api.Span
			pos  int
			want api.Errno
		}{
			{polynomial(1), ints(0, 1), 0, api.ErrArg}, {many, ints(1, 0), 0, api.ErrArg}, {[]api.Dyadic{wrong}, ints(1, 0), 0, api.ErrDyadicExp}, {nil, ints(1, 0), far + 1, api.ErrSpanOrder},
		} {
			if got, e := span.Zeros(c.c, c.x, c.pos, most); len(got) > 0 || e != c.want {
				t.Errorf("Zeros of at most %d: %v, error %d", most, got, e)
			}
		}
	}
}

// P10.16: the first error that comes up on the way.
func TestPolynomialsRefused(t *testing.T) {
	const n = api.MaxBits
	l, one, high, low := long(), of(1, 0), of(1, far), of(1, -far)
	list := func(l ...api.Dyadic) []api.Dyadic { return l }
	for _, c := range []struct {
		what            string
		c               []api.Dyadic
		x               api.Span
		horner, centred api.Errno
	}{
		{"a number, long", list(l), ints(0, 1), api.ErrBig, api.ErrBig},
		{"a number, beyond", list(beyond()), ints(0, 1), api.ErrDyadicExp, api.ErrDyadicExp},
		{"the last number first", list(l, beyond()), ints(0, 1), api.ErrDyadicExp, api.ErrDyadicExp},
		{"the last number first", list(beyond(), l), ints(0, 1), api.ErrBig, api.ErrBig},
		{"a product, beyond", list(l, high), ints(2, 2), api.ErrDyadicExp, api.ErrDyadicExp},
		{"a product, long", list(beyond(), above(powerAnd(n-1, 1), 0)), ints(3, 3), api.ErrBig, api.ErrBig},
		{"a sum, beyond", list(high, one), only(high), api.ErrDyadicExp, api.ErrDyadicExp},
		{"a sum, long", list(one, one), only(of(1, n)), api.ErrBig, api.ErrBig},
		// What no number is multiplied with is not asked for, but its middle is.
		{"the middle, long", list(one), from(low, high), api.OK, api.ErrBig},
		{"the middle, beyond", list(l), from(api.Dyadic{}, low), api.ErrBig, api.ErrDyadicExp},
		{"no number", nil, from(l, beyond()), api.OK, api.ErrBig},
		// The derivative's numbers are made ahead of all values.
		{"a number of the derivative, beyond", list(l, one, high), ints(1, 1), api.ErrBig, api.ErrDyadicExp},
		{"a number of the derivative, long", list(beyond(), one, one, above(powerAnd(n-1, 1), 0)), ints(1, 1), api.ErrDyadicExp, api.ErrBig},
		{"the first one of the derivative's", list(one, l, high), ints(0, 0), api.ErrBig, api.ErrBig},
		{"the first one of the derivative's", list(one, beyond(), l), ints(0, 0), api.ErrBig, api.ErrDyadicExp},
		// The value at the middle, ahead of the derivative's on x.
		{"the middle's value", list(beyond(), one, one), from(of(-1, n), of(1, n)), api.ErrBig, api.ErrDyadicExp},
		{"the derivative's value", list(one, one, one), from(of(-1, n), of(1, n)), api.ErrBig, api.ErrBig},
	} {
		got, e := span.Horner(c.c, c.x, -1)
		if c.horner != api.OK {
			wantErr(t, "Horner: "+c.what, got, e, c.horner)
		} else if e != api.OK {
			t.Errorf("Horner: %s: error %d", c.what, e)
		}
		got, e = span.Centred(c.c, c.x, -1)
		wantErr(t, "Centred: "+c.what, got, e, c.centred)
	}
}

// P10.16: what comes behind both values of the centred form.
func TestCentredRefusedLate(t *testing.T) {
	const n = api.MaxBits
	high := of(1, far)
	for _, c := range []struct {
		what string
		c    []api.Dyadic
		x    api.Span
		want api.Errno
	}{
		{"from the middle on, beyond", polynomial(5), from(minus(high), of(3, far)), api.ErrDyadicExp},
		{"from the middle on, long", polynomial(5), from(of(-1, n+5), above(powerAnd(n+5, 1), 0)), api.ErrBig},
		{"the product, beyond", []api.Dyadic{of(0, 0), high}, ints(-2, 2), api.ErrDyadicExp},
		{"the product, long", []api.Dyadic{of(0, 0), above(powerAnd(n-1, 1), 0)}, ints(-5, 5), api.ErrBig},
		{"the sum, beyond", []api.Dyadic{high, high}, ints(-1, 1), api.ErrDyadicExp},
		{"the sum, long", []api.Dyadic{of(1, n+9), of(1, 0)}, ints(-1, 1), api.ErrBig},
	} {
		got, e := span.Centred(c.c, c.x, 0)
		wantErr(t, c.what, got, e, c.want)
	}
	got, e := span.Centred(polynomial(5), from(api.Dyadic{}, high), 0)
	want(t, "far, but not too far", got, e, ints(5, 5))
}

// P10.18: the values at numbers of x lie in both.
func TestValuesLieInside(t *testing.T) {
	m := mix(4)
	for i := range 150 {
		c, x := m.list(i%8, 1), m.span(t, 1)
		for _, pos := range []int{-300, -20, 0, 64} {
			byRule, byCentre := must[api.Span](t)(span.Horner(c, x, pos)), must[api.Span](t)(span.Centred(c, x, pos))
			for range 4 {
				d := m.inside(t, x)
				value := must[api.Dyadic](t)(dyadic.Value(c, d))
				if !has(t, byRule, value) || !has(t, byCentre, value) {
					t.Fatalf("the value at %v lies outside at %d", d, pos)
				}
			}
		}
	}
}
