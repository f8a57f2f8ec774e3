package ratio_test

import (
	"testing"

	"surd/api"
	"surd/nat"
	"surd/ratio"
	"surd/whole"
)

// read is the rational of a text.
func read(t *testing.T, s string) api.Ratio {
	t.Helper()
	return must[api.Ratio](t)(ratio.Parse(s))
}

// The chapter's examples 5 and 6.
func TestExamplesOfWhatIsNear(t *testing.T) {
	for _, c := range [][3]string{{"0.3", "0.4", "1/3"}, {"-1/2", "5", "0"}, {"2.1", "4", "3"}, {"3.14", "3.15", "22/7"}} {
		r, e := ratio.Simplest(read(t, c[0]), read(t, c[1]))
		wantRatio(t, "Simplest", r, e, read(t, c[2]))
	}
	for _, c := range []struct {
		r    string
		most uint64
		want string
	}{{"3.14159", 113, "355/113"}, {"1/2", 1, "0"}, {"7/3", 100, "7/3"}} {
		r, e := ratio.Best(read(t, c.r), api.Nat{c.most})
		wantRatio(t, "Best", r, e, read(t, c.want))
	}
	r, e := ratio.Best(of(1, 1), nil)
	wantErr(t, "Best(1, 0)", e, api.ErrArg, r)
	low, high, e := ratio.Neighbours(of(1, 3), api.Nat{5})
	wantRatio(t, "below 1/3", low, e, of(1, 4))
	wantRatio(t, "above 1/3", high, e, of(2, 5))
	low, high, e = ratio.Neighbours(of(0, 1), api.Nat{4})
	wantRatio(t, "below 0", low, e, of(-1, 4))
	wantRatio(t, "above 0", high, e, of(1, 4))
	low, high, e = ratio.Neighbours(of(1, 3), api.Nat{2})
	wantErr(t, "Neighbours(1/3, 2)", e, api.ErrArg, low, high)
}

// fraction is p / q as ints.
type fraction struct{ p, q int }

func (f fraction) ratio() api.Ratio { return of(f.p, f.q) }

// less: is f less than g?
func (f fraction) less(g fraction) bool { return f.p*g.q < g.p*f.q }

// modelSimplest tries denominators, from 1 on, and of each the numerators that
// may be, from 0 on.
func modelSimplest(a, b fraction) fraction {
	for q := 1; ; q++ {
		for size := range 60 * q {
			for _, p := range []int{size, -size} {
				if f := (fraction{p, q}); !f.less(a) && !b.less(f) {
					return f
				}
			}
		}
	}
}

// P7.5, P7.9: all pairs of small rationals.
func TestSimplestOfInts(t *testing.T) {
	var all []fraction
	for q := 1; q <= 9; q++ {
		for p := -2*q - 1; p <= 2*q+1; p++ {
			all = append(all, fraction{p, q}, fraction{p + 30*q, q})
		}
	}
	for _, a := range all {
		for _, b := range all {
			got, e := ratio.Simplest(a.ratio(), b.ratio())
			if b.less(a) {
				wantErr(t, "Simplest", e, api.ErrArg, got)
				continue
			}
			wantRatio(t, "Simplest", got, e, modelSimplest(a, b).ratio())
		}
	}
}

// order is how a compares with b.
func order(t *testing.T, a, b api.Ratio) int {
	t.Helper()
	return must[int](t)(ratio.Compare(a, b))
}

// wantSimplest asks for a number from a to b that is a whole one and, if there
// are several, the one next to 0; or of which the neighbours with no greater
// denominator lie outside: then there is none with a lesser one.
func wantSimplest(t *testing.T, a, b api.Ratio) {
	t.Helper()
	got, e := ratio.Simplest(a, b)
	if e != api.OK || !isNormal(got) || order(t, got, a) < 0 || order(t, got, b) > 0 {
		t.Errorf("Simplest of %v and %v: %v, error %d", short(a), short(b), short(got), e)
		return
	}
	if len(got.Den) == 1 && got.Den[0] == 1 {
		if whole.Sign(got.Num) == 0 {
			return
		}
		nearer := must[api.Ratio](t)(ratio.Sub(got, of(whole.Sign(got.Num), 1)))
		if order(t, nearer, a) >= 0 && order(t, nearer, b) <= 0 {
			t.Errorf("Simplest of %v and %v: %v", short(a), short(b), short(got))
		}
		return
	}
	low, high, e := ratio.Neighbours(got, got.Den)
	if e != api.OK || order(t, low, a) >= 0 || order(t, high, b) <= 0 {
		t.Errorf("Simplest of %v and %v: %v is not", short(a), short(b), short(got))
	}
}

// P7.5, P7.9: samples, and drawn ones near to each other, of all lengths.
func TestSimplest(t *testing.T) {
	for _, a := range samples() {
		for _, b := range samples() {
			if order(t, a, b) > 0 {
				got, e := ratio.Simplest(a, b)
				wantErr(t, "Simplest", e, api.ErrArg, got)
				a, b := b, a
				wantSimplest(t, a, b)
				continue
			}
			wantSimplest(t, a, b)
		}
	}
	m := mix(13)
	for i := range 300 {
		a := m.ratio(1 + i%40)
		b := must[api.Ratio](t)(ratio.Add(a, over(m.full(1+i%3), m.full(1+m.below(40)))))
		wantSimplest(t, a, b)
		wantSimplest(t, minus(b), minus(a))
	}
}

// P7.5: of a number and itself it is that number, whatever the shape; and where
// one end begins as the other one goes on, it is the one that ends.
func TestSimplestOfEnds(t *testing.T) {
	m := mix(14)
	for i := range 100 {
		l := m.quotients(m.below(60))
		r := must[api.Ratio](t)(ratio.Unchain(l...))
		by := m.full(1 + i%4)
		got, e := ratio.Simplest(r, api.Ratio{Num: api.Whole{Neg: r.Num.Neg, Abs: times(r.Num.Abs, by)}, Den: times(r.Den, by)})
		wantRatio(t, "Simplest of one number", got, e, r)
		further := must[api.Ratio](t)(ratio.Unchain(append(l, above(m.full(1+i%3)))...))
		a, b := r, further
		if order(t, a, b) > 0 {
			a, b = b, a
		}
		got, e = ratio.Simplest(a, b)
		wantRatio(t, "Simplest to an end", got, e, must[api.Ratio](t)(ratio.Simplest(r, r)))
		wantSimplest(t, a, b)
	}
}

// modelBest tries all denominators, and of each the two numerators next to r.
func modelBest(r fraction, most int) fraction {
	best := fraction{}
	for q := 1; q <= most; q++ {
		down := rounded(r.p*q, r.q, api.Down)
		for _, p := range []int{down, down + 1} {
			f := fraction{p, q}
			// How far f and the best one are from r, times r.q.
			far, least := max(f.p*r.q-r.p*q, r.p*q-f.p*r.q), max(best.p*r.q-r.p*best.q, r.p*best.q-best.p*r.q)
			if best.q == 0 || far*best.q < least*q {
				best = f
			}
		}
	}
	return best
}

// P7.10: all small rationals.
func TestBestOfInts(t *testing.T) {
	for q := 1; q <= 24; q++ {
		for p := -30; p <= 60; p++ {
			for most := 1; most <= 26; most++ {
				got, e := ratio.Best(of(p, q), api.Nat{uint64(most)})
				wantRatio(t, "Best", got, e, modelBest(fraction{p, q}, most).ratio())
			}
		}
	}
}

// wantBest asks for r itself, if its denominator is not above most; else for a
// number with such a denominator, next to which, on the other side of r, the
// next one with such a denominator is further away; or as far, and then it has
// a greater denominator, or the same and is greater.
func wantBest(t *testing.T, r api.Ratio, most api.Nat) {
	t.Helper()
	reckon := must[api.Ratio](t)
	got, e := ratio.Best(r, most)
	if nat.Compare(reckon(ratio.Norm(r)).Den, most) <= 0 {
		wantRatio(t, "Best", got, e, r)
		return
	}
	if e != api.OK || !isNormal(got) || nat.Compare(got.Den, most) > 0 {
		t.Errorf("Best of %v: %v, error %d", short(r), short(got), e)
		return
	}
	low, high, _ := ratio.Neighbours(got, most)
	other := high
	if order(t, got, r) > 0 {
		other = low
	}
	way := reckon(ratio.Abs(reckon(ratio.Sub(got, r))))
	otherWay := reckon(ratio.Sub(other, r))
	if order(t, got, r) > 0 {
		otherWay = reckon(ratio.Neg(otherWay))
	}
	side := order(t, way, otherWay)
	if side == 0 {
		side = nat.Compare(got.Den, other.Den)
	}
	if side == 0 {
		side = order(t, got, other)
	}
	if side >= 0 {
		t.Errorf("Best of %v and %v: %v, not %v", short(r), most[:min(len(most), 6)], short(got), short(other))
	}
}

// P7.10: samples with limits of all lengths.
func TestBest(t *testing.T) {
	m := mix(15)
	for i, r := range samples() {
		for limbs := range 6 {
			most := append(m.nat(limbs), 1+m.next()>>m.below(64))
			wantBest(t, r, most)
			wantBest(t, r, append(r.Den, 0))
			wantBest(t, r, api.Nat{uint64(i + 1)})
		}
	}
	for i := range 300 {
		r := m.ratio(1 + i%40)
		most := append(m.nat(m.below(1+i%40)), 1+m.next()>>m.below(64))
		wantBest(t, r, most)
	}
}

// P7.10: limits at and next to the denominators that r's quotients come to, by
// which it is another fraction, and halfway between.
func TestBestByQuotients(t *testing.T) {
	m := mix(16)
	reckon := must[api.Ratio](t)
	for i := range 60 {
		l := m.quotients(1 + m.below(20))
		r := reckon(ratio.Unchain(l...))
		for n := 1; n < len(l); n++ {
			part := reckon(ratio.Unchain(l[:n]...))
			half := append(append([]api.Whole{}, l[:n]...), above(must[api.Nat](t)(nat.Right(l[n].Abs, 1))))
			mosts := []api.Nat{part.Den, must[api.Nat](t)(nat.Add(part.Den, api.Nat{1}))}
			if whole.Sign(half[n]) > 0 {
				mosts = append(mosts, reckon(ratio.Unchain(half...)).Den)
			}
			if less, e := nat.Sub(part.Den, api.Nat{1}); e == api.OK && len(less) > 0 {
				mosts = append(mosts, less)
			}
			for _, most := range mosts {
				wantBest(t, r, most)
				if i%3 == 0 {
					wantBest(t, minus(r), most)
				}
			}
		}
	}
}

// P7.10: halfway between two neighbours: the one with the lesser denominator,
// or, of whole numbers, the lesser one.
func TestBestOfTwoAsNear(t *testing.T) {
	m := mix(17)
	reckon := must[api.Ratio](t)
	for i := range 200 {
		l := m.quotients(m.below(30))
		r := reckon(ratio.Unchain(l...))
		_, high, e := ratio.Neighbours(r, r.Den)
		if e != api.OK {
			t.Fatalf("error %d", e)
		}
		want := high
		if nat.Compare(r.Den, high.Den) < 0 {
			want = r
		}
		middle := reckon(ratio.Quo(reckon(ratio.Add(r, high)), of(2, 1)))
		got, e := ratio.Best(middle, r.Den)
		wantRatio(t, "Best of two as near", got, e, want)
		v := m.below(2000) - 1000
		got, e = ratio.Best(of(2*v+1, 2), api.Nat{1})
		wantRatio(t, "Best of two whole numbers", got, e, of(v, 1))
		if i == 0 {
			got, e = ratio.Best(over(ones(300), api.Nat{2}), api.Nat{1})
			wantRatio(t, "Best of two long ones", got, e, over(ones(299), api.Nat{1}))
		}
	}
}

// P7.11: all small rationals, and all limits.
func TestNeighboursOfInts(t *testing.T) {
	for q := 1; q <= 12; q++ {
		for p := -14; p <= 26; p++ {
			least := q
			for d := q; d > 0; d-- {
				if p%d == 0 && q%d == 0 {
					least = q / d
					break
				}
			}
			for most := range 15 {
				low, high, e := ratio.Neighbours(of(p, q), api.Nat{uint64(most)})
				if most < least {
					wantErr(t, "Neighbours", e, api.ErrArg, low, high)
					continue
				}
				wantLow, wantHigh := fraction{p - q, q}, fraction{p + q, q}
				for d := 1; d <= most; d++ {
					down := rounded(p*d-1, q, api.Down)
					if f := (fraction{down, d}); wantLow.less(f) {
						wantLow = f
					}
					up := rounded(p*d+1, q, api.Up)
					if f := (fraction{up, d}); f.less(wantHigh) {
						wantHigh = f
					}
				}
				wantRatio(t, "below", low, e, wantLow.ratio())
				wantRatio(t, "above", high, e, wantHigh.ratio())
			}
		}
	}
}

// wantNeighbours asks for the two that there is but one of: by Farey's
// equations, with denominators up to most that, with r's, are above it.
func wantNeighbours(t *testing.T, r api.Ratio, most api.Nat) {
	t.Helper()
	reckon := must[api.Whole](t)
	low, high, e := ratio.Neighbours(r, most)
	r = must[api.Ratio](t)(ratio.Norm(r))
	if nat.Compare(most, r.Den) < 0 {
		wantErr(t, "Neighbours", e, api.ErrArg, low, high)
		return
	}
	if e != api.OK || !isNormal(low) || !isNormal(high) {
		t.Errorf("Neighbours of %v: %v and %v, error %d", short(r), short(low), short(high), e)
		return
	}
	for _, two := range [][2]api.Ratio{{low, r}, {r, high}} {
		left, right := two[0], two[1]
		across := reckon(whole.Sub(reckon(whole.Mul(right.Num, above(left.Den))), reckon(whole.Mul(left.Num, above(right.Den)))))
		if whole.Compare(across, whole.Of(1)) != 0 {
			t.Errorf("%v and %v are no neighbours", short(left), short(right))
		}
		sum := must[api.Nat](t)(nat.Add(left.Den, right.Den))
		if nat.Compare(left.Den, most) > 0 || nat.Compare(right.Den, most) > 0 || nat.Compare(sum, most) <= 0 {
			t.Errorf("%v and %v are no neighbours for %v", short(left), short(right), most[:min(len(most), 6)])
		}
	}
}

// P7.11, P7.12: samples with limits of all lengths.
func TestNeighbours(t *testing.T) {
	m := mix(18)
	some := append(samples(), small(9, 9)...)
	for i := range 100 {
		some = append(some, m.ratio(1+i%50))
	}
	for i, r := range some {
		den := must[api.Ratio](t)(ratio.Norm(r)).Den
		wantNeighbours(t, r, den)
		wantNeighbours(t, r, append(append(api.Nat{}, den...), 0, 0))
		wantNeighbours(t, r, must[api.Nat](t)(nat.Add(den, api.Nat{1})))
		wantNeighbours(t, r, must[api.Nat](t)(nat.Sub(den, api.Nat{1})))
		wantNeighbours(t, r, must[api.Nat](t)(nat.Add(den, m.full(1+i%4))))
		wantNeighbours(t, r, times(den, m.full(1+i%4)))
		wantNeighbours(t, r, m.nat(i%5))
		wantNeighbours(t, r, nil)
	}
}

// R2: most is looked at behind a rational that means nothing, and 0 in every
// shape is 0.
func TestMostOfNone(t *testing.T) {
	for _, zero := range []api.Nat{nil, {}, {0}, {0, 0, 0}} {
		r, e := ratio.Best(over(power(api.MaxBits), api.Nat{1}), zero)
		wantErr(t, "Best", e, api.ErrArg, r)
		low, high, e := ratio.Neighbours(over(power(api.MaxBits), api.Nat{1}), zero)
		wantErr(t, "Neighbours", e, api.ErrArg, low, high)
	}
}

// R6: what is near, at the limit and beyond it.
func TestWhatIsNearAtTheLimit(t *testing.T) {
	const n = api.MaxBits
	full, past, one := ones(n), power(n+1), api.Nat{1}
	r, e := ratio.Simplest(over(full, one), over(past, one))
	wantLimbs(t, "Simplest from full", r, e, above(full), one)
	r, e = ratio.Simplest(minus(over(past, one)), minus(over(full, one)))
	wantLimbs(t, "Simplest to -full", r, e, below(full), one)
	r, e = ratio.Simplest(over(power(n), one), over(past, one))
	wantErr(t, "Simplest from 2^n", e, api.ErrBig, r)
	r, e = ratio.Simplest(over(one, past), over(one, full))
	wantLimbs(t, "Simplest to 1 / full", r, e, above(one), full)
	r, e = ratio.Simplest(over(one, past), over(one, power(n)))
	wantErr(t, "Simplest to 2^-n", e, api.ErrBig, r)
	r, e = ratio.Simplest(over(ones(n+1), past), over(past, ones(n+1)))
	wantLimbs(t, "Simplest around 1", r, e, above(one), one)

	r, e = ratio.Best(over(ones(n+1), past), full)
	wantLimbs(t, "Best next to 1", r, e, above(one), one)
	r, e = ratio.Best(over(full, past), past)
	wantErr(t, "Best of itself", e, api.ErrBig, r)
	r, e = ratio.Best(over(power(n), full), past)
	wantErr(t, "Best of 2^n / full", e, api.ErrBig, r)
	r, e = ratio.Best(over(one, past), full)
	wantLimbs(t, "Best of 2^-(n+1)", r, e, above(nil), one)
	r, e = ratio.Best(over(power(n), one), one)
	wantErr(t, "Best of 2^n", e, api.ErrBig, r)
	r, e = ratio.Best(minus(over(append(api.Nat{0}, full...), power(64))), past)
	wantLimbs(t, "Best of -full", r, e, below(full), one)

	low, high, e := ratio.Neighbours(of(0, 3), full)
	wantLimbs(t, "below 0", low, e, below(one), full)
	wantLimbs(t, "above 0", high, e, above(one), full)
	low, high, e = ratio.Neighbours(of(0, 1), power(n))
	wantErr(t, "Neighbours of 0", e, api.ErrBig, low, high)
	low, high, e = ratio.Neighbours(of(1, 2), full)
	wantLimbs(t, "below 1/2", low, e, above(ones(n-1)), full)
	wantLimbs(t, "above 1/2", high, e, above(power(n-1)), full)
	low, high, e = ratio.Neighbours(over(power(n-1), one), one)
	wantLimbs(t, "below 2^(n-1)", low, e, above(ones(n-1)), one)
	next := power(n - 1)
	next[0] = 1
	wantLimbs(t, "above 2^(n-1)", high, e, above(next), one)
	low, high, e = ratio.Neighbours(over(full, one), one)
	wantErr(t, "Neighbours of full", e, api.ErrBig, low, high)
	low, high, e = ratio.Neighbours(minus(over(power(n), one)), one)
	wantErr(t, "Neighbours of -2^n", e, api.ErrBig, low, high)
}
