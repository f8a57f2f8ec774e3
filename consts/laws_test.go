package consts_test

import (
	"testing"

	"surd/api"
	"surd/consts"
	"surd/dyadic"
	"surd/nat"
	"surd/span"
	"surd/whole"
)

// lawPrecisions are those at which laws are looked at.
func lawPrecisions() []int {
	var out []int
	for p := range 70 {
		out = append(out, p)
	}
	return append(out, 100, 127, 128, 300, 1000, 5000, 20000, 100000)
}

// at is an enclosure that is told.
func (c call) at(t *testing.T, p int) api.Span {
	t.Helper()
	return must[api.Span](t)(c.of(p))
}

// P12.6: enclosures of one number have a number in common.
func TestMoreIsTheSame(t *testing.T) {
	calls := constants()
	for _, k := range []int{2, 3, 239, 19999, api.MaxIndex} {
		calls = append(calls, arctan(k), arctanh(k), ln(k))
	}
	for _, c := range calls {
		var all []api.Span
		places := []int{0, 1, 2, 3, 9, 63, 64, 65, 200, 511, 1000, 3000, 20000, 60000}
		for _, p := range places {
			all = append(all, c.at(t, p))
		}
		for i, a := range all {
			for j, b := range all {
				if !meet(t, a, b) {
					t.Errorf("%s at %d and at %d are apart", c.what, places[i], places[j])
				}
			}
		}
	}
}

// P12.7: pi by three sums of arcs, and by one that is not told there.
func TestMachin(t *testing.T) {
	for _, p := range lawPrecisions() {
		pi := constants()[0].at(t, p)
		part := func(n, k int) api.Span { return times(t, n, arctan(k).at(t, p)) }
		for i, sum := range []api.Span{
			add(t, part(16, 5), part(-4, 239)),
			add(t, part(8, 3), part(4, 7)),
			add(t, part(4, 2), part(4, 3)),
			add(t, part(48, 18), part(32, 57), part(-20, 239)),
		} {
			if !meet(t, pi, sum) {
				t.Errorf("Pi at %d and the sum %d are apart", p, i)
			}
		}
	}
}

// P12.8: logarithms of products.
func TestLogarithmsOfProducts(t *testing.T) {
	wantSum := func(a, b, p int) {
		t.Helper()
		one := func(k int) api.Span { return must[api.Span](t)(consts.Ln(k, p)) }
		if !meet(t, one(a*b), add(t, one(a), one(b))) {
			t.Errorf("Ln(%d * %d) at %d", a, b, p)
		}
	}
	for _, p := range []int{0, 1, 20, 64, 300} {
		for a := 1; a <= 30; a++ {
			for b := 1; b <= 30; b++ {
				wantSum(a, b, p)
			}
		}
	}
	m := mix(1)
	for range 1000 {
		a := 1 + m.below(api.MaxIndex)
		wantSum(a, 1+m.below(api.MaxIndex/a), m.below(500))
	}
	for _, p := range lawPrecisions() {
		wantSum(1, api.MaxIndex, p)
		wantSum(2, 9973, p)
		wantSum(101, 197, p)
	}
}

// P12.8: Ln of 2 and LnTwo, and with twice the arc of 1/3, and with three arcs.
func TestLogarithmOfTwo(t *testing.T) {
	for _, p := range lawPrecisions() {
		two := constants()[1].at(t, p)
		part := func(n, k int) api.Span { return times(t, n, arctanh(k).at(t, p)) }
		for i, other := range []api.Span{
			must[api.Span](t)(consts.Ln(2, p)),
			part(2, 3),
			add(t, part(18, 26), part(-2, 4801), part(8, 8749)),
		} {
			if !meet(t, two, other) {
				t.Errorf("LnTwo at %d and the sum %d are apart", p, i)
			}
		}
	}
}

// P12.8: Ln(k + 1) less Ln(k - 1) is twice Arctanh(k).
func TestLogarithmsOfNeighbours(t *testing.T) {
	wantTwice := func(k, p int) {
		t.Helper()
		above, below := must[api.Span](t)(consts.Ln(k+1, p)), must[api.Span](t)(consts.Ln(k-1, p))
		if !meet(t, add(t, above, times(t, -1, below)), times(t, 2, arctanh(k).at(t, p))) {
			t.Errorf("Ln on both sides of %d at %d", k, p)
		}
	}
	for k := 2; k < api.MaxIndex; k++ {
		wantTwice(k, 20+k%50)
	}
	for _, p := range lawPrecisions() {
		wantTwice(2, p)
		wantTwice(12346, p)
		wantTwice(api.MaxIndex-1, p)
	}
}

// P12.11: the golden ratio's square is it and 1: so no lesser end is above that,
// and no greater one below.
func TestGolden(t *testing.T) {
	for _, p := range lawPrecisions() {
		wantGolden(t, p)
	}
}

func wantGolden(t *testing.T, p int) {
	t.Helper()
	got, e := consts.Golden(p)
	wantEnclosure(t, "Golden", got, e, p, got)
	reckon := must[api.Dyadic](t)
	beyond := func(d api.Dyadic) int {
		return compare(t, reckon(dyadic.Mul(d, d)), reckon(dyadic.Add(d, of(1, 0))))
	}
	if dyadic.Sign(got.Hi) <= 0 || beyond(got.Hi) < 0 || dyadic.Sign(got.Lo) > 0 && beyond(got.Lo) > 0 {
		t.Errorf("Golden at %d is %v", p, short(got))
	}
}

// P12.1, P12.4, P12.11: the greatest precision, where that takes few seconds.
func TestMostBits(t *testing.T) {
	wantGolden(t, api.MaxConst)
	all := must[api.Whole](t)(consts.Bits(api.ConstE, api.MaxConst))
	if n := nat.Length(all.Abs); n != api.MaxConst+2 {
		t.Errorf("Bits of e are %d", n)
	}
	for _, p := range []int{0, 5000, 1 << 19} {
		want := must[api.Whole](t)(whole.Shift(all, p-api.MaxConst))
		if got := must[api.Whole](t)(consts.Bits(api.ConstE, p)); !sameWhole(got, want) {
			t.Errorf("Bits of e at %d do not go on", p)
		}
	}
}

// G8: what is between Lo and Hi of Apery's number is the sum of the inverse
// cubes: so many of them, and what is left, from 1 / 2 (n + 1)^2 to 1 / 2 n^2.
func TestAperyIsTheSumOfInverseCubes(t *testing.T) {
	const n, pos = 2000, -200
	reckon := must[api.Span](t)
	sum := only(of(0, 0))
	for i := 1; i <= n; i++ {
		sum = add(t, sum, reckon(span.Quo(only(of(1, 0)), only(of(i*i*i, 0)), pos)))
	}
	inverse := func(d int) api.Span { return reckon(span.Quo(only(of(1, 0)), only(of(2*d*d, 0)), pos)) }
	sum = add(t, sum, reckon(span.Hull(inverse(n+1), inverse(n))))
	if !meet(t, sum, must[api.Span](t)(consts.Apery(100))) {
		t.Errorf("Apery's number is %v", sum)
	}
}
