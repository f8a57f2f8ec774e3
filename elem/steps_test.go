package elem

import (
	"testing"

	"surd/api"
	"surd/consts"
	"surd/dyadic"
	"surd/series"
	"surd/span"
	"surd/whole"
)

// These tests hold what the functions inside are off against what their remarks
// say: the same number is asked for with so many places more that what it is off
// there does not tell.
const more = 80

// wantNear asks that two numbers are at most n 2^-w apart.
func wantNear(t *testing.T, what string, a, b api.Dyadic, n int, w places) {
	t.Helper()
	if apart := size(minus(a, b)); less(scaled(dyadic.Of(n), -int(w)), apart) {
		top, _ := dyadic.Top(apart)
		t.Errorf("%s at %d: more than %d steps off, as much as 2^%d", what, w, n, top+int(w))
	}
}

// someWidths are how many places the tests ask for: all small ones, and others.
func someWidths() []places {
	var out []places
	for w := places(6); w < 80; w++ {
		out = append(out, w)
	}
	return append(out, 100, 127, 128, 129, 200, 333, 512, 1000, 3000)
}

// arguments are numbers of at most 1 in size with w places.
func arguments(w places) []api.Dyadic {
	out := []api.Dyadic{{}}
	for _, d := range []int{1, 2, 3, 5, 7, 64, 1000} {
		part := w.quotient(one(), dyadic.Of(d))
		out = append(out, part, opposite(part), minus(one(), part), minus(part, one()))
	}
	for depth := 1; depth < int(w); depth += 1 + depth/2 {
		out = append(out, w.rounded(scaled(dyadic.Of(181), -8-depth)), w.rounded(scaled(dyadic.Of(-255), -8-depth)))
	}
	return out
}

// Exp, sine and cosine, by series and by pieces.
func TestStepsOfArguments(t *testing.T) {
	for _, w := range someWidths() {
		for _, r := range arguments(w) {
			up := exponential(r, w+more)
			wantNear(t, "exponential", exponential(r, w), up, 2, w)
			wantNear(t, "exponentialByPieces", exponentialByPieces(r, w), up, 2, w)
			sine, cosine := circle(r, w+more)
			s, c := circle(r, w)
			wantNear(t, "sine", s, sine, 2, w)
			wantNear(t, "cosine", c, cosine, 3, w)
			s, c = circleByPieces(r, w)
			wantNear(t, "sine by pieces", s, sine, 2, w)
			wantNear(t, "cosine by pieces", c, cosine, 2, w)
		}
	}
}

// Each piece's sine and cosine, and that the pieces are all of r.
func TestStepsOfPieces(t *testing.T) {
	for _, w := range someWidths() {
		for _, r := range arguments(w) {
			for _, round := range []bool{false, true} {
				left, at := r, places(firstPiece)
				for s, c := range w.pieces(r, round) {
					piece := min(at, w).rounded(left)
					for dyadic.Sign(piece) == 0 {
						at *= 2
						piece = min(at, w).rounded(left)
					}
					left, at = minus(left, piece), 2*at
					sine, cosine := circle(piece, w+more)
					if !round {
						up, down := exponential(piece, w+more), exponential(opposite(piece), w+more)
						sine, cosine = scaled(minus(up, down), -1), scaled(plus(up, down), -1)
					}
					wantNear(t, "a piece's sine", s, sine, 2, w)
					wantNear(t, "a piece's cosine", c, cosine, 5, w)
				}
				if dyadic.Sign(left) != 0 {
					t.Errorf("at %d: %v is left of %v", w, left, r)
				}
			}
		}
	}
}

// The pieces may be left ahead of time.
func TestPiecesLeft(t *testing.T) {
	n := 0
	for range places(100).pieces(scaled(dyadic.Of(12345), -14), true) {
		n++
		break
	}
	if n != 1 {
		t.Errorf("%d pieces", n)
	}
}

// Arcs and logarithms near 1: less than 8 steps off.
func TestStepsOfArcs(t *testing.T) {
	for _, w := range someWidths() {
		for _, r := range arguments(w) {
			r = scaled(r, -1)
			wantNear(t, "arc", arc(r, w), arc(r, w+more), 8, w)
			m := plus(one(), r)
			if dyadic.Sign(r) < 0 {
				m = plus(one(), scaled(r, -1))
			}
			wantNear(t, "height", height(m, w), height(m, w+more), 8, w)
		}
	}
}

// Arcs and logarithms that are found roughly first, and exp, sine and cosine by
// pieces, against the series that are told to so many places.
func TestStepsOfLong(t *testing.T) {
	const w = mostBySeries + 1
	for _, t0 := range []api.Dyadic{places(w).quotient(one(), dyadic.Of(3)), scaled(dyadic.Of(-7), -4), scaled(one(), -1), scaled(one(), -w/2-3)} {
		held := func(about api.Span, e api.Errno) api.Dyadic {
			if e != api.OK {
				t.Fatalf("error %d", e)
			}
			return about.Lo
		}
		wantNear(t, "arc", arc(t0, w), held(series.Atan(t0, w+more)), 8, w)
		sine, cosine := circle(t0, w)
		wantNear(t, "sine", sine, held(series.Sin(t0, w+more)), 2, w)
		wantNear(t, "cosine", cosine, held(series.Cos(t0, w+more)), 3, w)
		up := held(series.Exp(t0, w+more))
		wantNear(t, "exponential", exponential(t0, w), up, 2, w)
		// tanh t0 is m - 1 over m + 1.
		m := places(w+more).quotient(plus(one(), scaled(t0, -1)), minus(one(), scaled(t0, -1)))
		wantNear(t, "height", height(m, w), scaled(held(series.Atanh(scaled(t0, -1), w+more)), 1), 8, w)
	}
}

// What is left of an argument: it lies in the span, which is narrow and near 0.
func TestRests(t *testing.T) {
	half := func(p int) (api.Span, api.Errno) {
		pi, _ := consts.Pi(p)
		return span.Scale(pi, -1)
	}
	for _, w := range []places{6, 9, 20, 64, 200} {
		for _, x := range farArguments() {
			for _, u := range []unit{half, consts.LnTwo} {
				r := restOf(x, w, u)
				if less(one(), size(r.Lo)) || less(one(), size(r.Hi)) || less(scaled(dyadic.Of(3), -int(w)), minus(r.Hi, r.Lo)) {
					t.Fatalf("of %v at %d is left %v", x, w, r.Span)
				}
				about, _ := u(1500)
				taken, _ := dyadic.Make(r.times, 0)
				all, _ := span.Mul(about, point(taken), -api.MaxExp)
				all, _ = span.Add(all, r.Span, -api.MaxExp)
				if in, e := span.Has(all, x); !in || e != api.OK {
					t.Fatalf("of %v at %d is left %v, and %v units", x, w, r.Span, r.times)
				}
				if whole.Sign(r.times) != 0 && less(scaled(times(about.Hi, dyadic.Of(5)), -3), size(r.middle())) {
					t.Fatalf("of %v at %d is left %v: too much", x, w, r.Span)
				}
				wantNear(t, "middle", r.middle(), r.Lo, 2, w)
				wantNear(t, "middle", r.middle(), r.Hi, 2, w)
			}
		}
	}
	if r := restOf(dyadic.Of(2), 10, func(int) (api.Span, api.Errno) { return api.Span{}, api.ErrArg }); !r.isLost() {
		t.Errorf("a rest of what is not told: %v", r)
	}
	if r := restOf(dyadic.Of(1), 10, nil); r.isLost() {
		t.Errorf("a rest of 1, which needs no unit: %v", r)
	}
}

// farArguments are of many sizes, some beside many quarter turns.
func farArguments() []api.Dyadic {
	out := []api.Dyadic{{}, scaled(one(), -api.MaxExp), scaled(dyadic.Of(257), -8), scaled(dyadic.Of(1<<20+1), -20)}
	for n := 1; n < 3000; n = n*5/4 + 1 {
		out = append(out, dyadic.Of(n), scaled(dyadic.Of(2*n+1), -3))
	}
	for _, top := range []int{30, 63, 64, 65, 128, 300, 1000} {
		out = append(out, twoTo(top), minus(twoTo(top), scaled(one(), -90)))
		for _, finer := range []int{4, 40, 400} {
			pi, _ := consts.Pi(top + finer)
			n, _ := whole.Shift(whole.Of(1<<20+3), top-21)
			turns, _ := dyadic.Make(n, -2)
			out = append(out, times(turns, pi.Lo))
		}
	}
	for _, x := range out {
		out = append(out, opposite(x))
	}
	return out
}

// The functions' values: at most 2^-(p + nearOff) off.
func TestStepsOfCurves(t *testing.T) {
	curves := map[string]curve{
		"power": power, "logarithm": logarithm, "hyperbolicSine": hyperbolicSine, "hyperbolicCosine": hyperbolicCosine,
		"arcTangent": arcTangent, "arcSine": arcSine, "arcCosine": arcCosine,
		"sine": func(x api.Dyadic, p int) api.Dyadic { return quarters(x, places(p+spare)).sine(0) },
		"tangent": func(x api.Dyadic, p int) api.Dyadic {
			return besidePoles(x, p).value
		},
	}
	for what, f := range curves {
		for _, p := range []int{1, 2, 3, 5, 10, 30, 64, 65, 130} {
			for _, x := range farArguments() {
				least, greatest := opposite(twoTo(p)), twoTo(p)
				switch what {
				case "power", "hyperbolicSine", "hyperbolicCosine":
					least, greatest = dyadic.Of(-p), dyadic.Of(p)
				case "logarithm":
					least, greatest = scaled(one(), -api.MaxExp), scaled(one(), 1100)
				case "arcTangent":
					least, greatest = scaled(dyadic.Of(-1), 1100), scaled(one(), 1100)
				case "arcSine", "arcCosine":
					x = scaled(x, -min(p, 12))
					least, greatest = dyadic.Of(-1), dyadic.Of(1)
				}
				if less(x, least) || less(greatest, x) {
					continue
				}
				wantNear(t, what, f(x, p), f(x, p+more), 1, places(p+nearOff))
			}
		}
	}
}

// Exp of n is at most 2 to the growth of n, and that is not far above.
func TestGrowth(t *testing.T) {
	for n := -200; n <= 200; n++ {
		// 1 / ln 2 is from 1 to 13 / 9.
		if made := growth(dyadic.Of(n)); made < n || 9*made < 13*n && n > 0 || made > max(n, 3*n/2+1) {
			t.Errorf("growth of %d: %d", n, made)
		}
	}
	for _, x := range []api.Dyadic{scaled(one(), -api.MaxExp), scaled(one(), -1)} {
		if growth(x) != growth(one()) || growth(opposite(x)) != 0 {
			t.Errorf("growth of %v: %d, %d", x, growth(x), growth(opposite(x)))
		}
	}
}
