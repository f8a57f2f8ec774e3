package series_test

import (
	"strings"
	"testing"

	"surd/api"
	"surd/ratio"
	"surd/series"
	"surd/span"
)

// decimals is the span of all numbers that begin with a text's digits.
func decimals(t *testing.T, text string) api.Span {
	t.Helper()
	_, behind, _ := strings.Cut(text, ".")
	r := must[api.Ratio](t)(ratio.Parse(text))
	unit := must[api.Ratio](t)(ratio.Parse("0." + strings.Repeat("0", len(behind)-1) + "1"))
	lo := must[api.Span](t)(span.Of(r, -400))
	hi := must[api.Span](t)(span.Of(must[api.Ratio](t)(ratio.Add(r, unit)), -400))
	return must[api.Span](t)(span.Hull(lo, hi))
}

// The chapter's examples, and more digits of the same numbers.
func TestExamples(t *testing.T) {
	for _, c := range calls() {
		text := map[string]string{
			"Exp":   "2.71828182845904523536028747135266249775724709369995",
			"Sin":   "0.84147098480789650665250232163029899962256306079837",
			"Cos":   "0.54030230586813971740093660744297660373231042061792",
			"Atan":  "0.46364760900080611621425623146121440202853705428612",
			"Atanh": "0.54930614433405484569762261846126285232374527891137",
		}[c.what]
		for _, p := range []int{1, 5, 10, 20, 40, 64, 100, 150} {
			got, e := c.of(of(1, c.top), p)
			wantGood(t, c.what, got, e, p, decimals(t, text))
		}
		got, e := c.of(of(1, c.top), 400)
		if wanted := decimals(t, text); e != api.OK || !within(t, got, wanted) {
			t.Errorf("%s: error %d, or not %s", c.what, e, text)
		}
	}
	got, e := series.Exp(of(0, 0), 10)
	wantGood(t, "Exp(0)", got, e, 10, only(of(1, 0)))
	got, e = series.Exp(of(2, 0), 10)
	wantErr(t, "Exp(2)", got, e, api.ErrSeriesArg)
	got, e = series.Sin(of(1, 0), 0)
	wantErr(t, "Sin(1, 0)", got, e, api.ErrArg)
	got, e = series.Atan(of(1, 0), 5)
	wantErr(t, "Atan(1)", got, e, api.ErrSeriesArg)
	got, e = series.Part(5, false, 30)
	wantGood(t, "Part(5)", got, e, 30, decimals(t, "0.19739555984988075837"))
	got, e = series.Part(1, false, 30)
	wantErr(t, "Part(1)", got, e, api.ErrArg)
}

// shapes are numbers of at most 2^top in size: the ends, what is next to them,
// and numbers in shapes that are not normal.
func shapes(top int) []api.Dyadic {
	out := []api.Dyadic{
		{}, of(0, far), of(0, -far), above(api.Nat{0, 0}, 7), minus(of(0, 0)), minus(above(api.Nat{0}, -3)),
		of(1, top), above(api.Nat{1, 0, 0}, top), above(api.Nat{0, 1}, top-64), above(api.Nat{2, 0}, top-1), above(power(500), top-500),
		above(ones(64), top-64), above(ones(65), top-65), above(ones(300), top-300), above(ones(5000), top-5000), above(ones(5000), top-5064),
		above(powerAnd(200), top-201), above(powerAnd(200), top-400), above(powerAnd(900), top-901),
		of(1, top-1), of(3, top-2), of(3, top-3), of(1, top-7), of(5, top-60), of(1, top-64), of(1, top-1000), of(7, -far), above(ones(100), -far),
	}
	for _, x := range out {
		out = append(out, minus(x))
	}
	return out
}

// P11.1: good spans at all small places.
func TestGoodSpansAtSmallPlaces(t *testing.T) {
	for _, c := range calls() {
		for i, x := range shapes(c.top) {
			held := c.model(t, only(x), 160)
			for p := 1 + i%2; p <= 150; p += 1 + p/12 {
				got, e := c.of(x, p)
				wantGood(t, c.what, got, e, p, held)
			}
		}
	}
}

// P11.1: good spans of drawn numbers.
func TestGoodSpansOfDrawnNumbers(t *testing.T) {
	m := mix(1)
	for _, c := range calls() {
		for i := range 300 {
			x := m.near(c.top, 1+i%5)
			p := 1 + m.below(400)
			got, e := c.of(x, p)
			wantGood(t, c.what, got, e, p, c.model(t, only(x), p))
		}
	}
}

// P11.1: good spans at many places, where arguments are reduced by more.
func TestGoodSpansAtManyPlaces(t *testing.T) {
	m := mix(2)
	for _, c := range calls() {
		for _, p := range []int{500, 729, 1000, 1001, 1728, 2500, 4096, 6000} {
			for _, x := range []api.Dyadic{of(1, c.top), m.near(c.top, p/64+1), m.near(c.top, 2), m.near(c.top-p/20, 9)} {
				got, e := c.of(x, p)
				wantGood(t, c.what, got, e, p, c.model(t, only(x), p))
			}
		}
	}
}

// P11.1: every p about a limb's and a cube's end, at the greatest numbers.
func TestGoodSpansFromPlaceToPlace(t *testing.T) {
	for _, c := range calls() {
		for _, x := range []api.Dyadic{of(1, c.top), of(-1, c.top), above(ones(700), c.top-700)} {
			held := c.model(t, only(x), 700)
			for p := 1; p <= 600; p += 1 + p/400 {
				got, e := c.of(x, p)
				wantGood(t, c.what, got, e, p, held)
			}
		}
	}
}

// P11.1: the greatest p, and numbers that have more bits than any answer.
func TestGoodSpansAtTheLimits(t *testing.T) {
	long := above(ones(api.MaxBits+9), -(api.MaxBits + 9))
	for _, c := range calls() {
		got, e := c.of(of(0, 0), most)
		wantGood(t, c.what+"(0)", got, e, most, only(of(c.atZero, 0)))
		x := of(-1, -(most/2 + 5))
		got, e = c.of(x, most)
		wantGood(t, c.what+" of a small number", got, e, most, c.model(t, only(x), most))
		x = long
		x.Exp += c.top
		for _, p := range []int{1, 300} {
			got, e = c.of(x, p)
			// It is less than 2^top by less than 2^-MaxBits.
			held := c.model(t, api.Span{Lo: above(ones(600), c.top-600), Hi: of(1, c.top)}, 400)
			wantGood(t, c.what+" of a long number", got, e, p, held)
		}
	}
}

// P11.2: Part, against the series of 1/k.
func TestPart(t *testing.T) {
	ks := []int{2, 3, 4, 5, 7, 8, 10, 57, 239, 1000, 1 << 10, 4801, 1<<20 - 1, 1 << 20}
	for i, c := range calls()[3:] {
		hyperbolic := i == 1
		for _, k := range ks {
			x := must[api.Span](t)(span.Of(api.Ratio{Num: of(1, 0).Man, Den: api.Nat{uint64(k)}}, -1200))
			held := c.model(t, x, 1100)
			for p := 1; p <= 1050; p += 1 + p/10 {
				got, e := series.Part(k, hyperbolic, p)
				wantGood(t, "Part", got, e, p, held)
			}
		}
	}
}
