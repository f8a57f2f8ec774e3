package consts

import (
	"testing"

	"surd/api"
	"surd/nat"
	"surd/whole"
)

// These tests hold what the functions inside are off against what their remarks
// say: the same number is asked for with so many places more that what it is off
// there does not tell.
const more = 100

// wantNear asks that a number is less than 2 steps off.
func wantNear(t *testing.T, what string, places int, value func(places int) api.Whole) {
	t.Helper()
	apart := minus(moved(value(places), more), value(places+more))
	if nat.Compare(apart.Abs, moved(whole.Of(2), more).Abs) >= 0 {
		t.Errorf("%s with %d places is 2 steps off or more", what, places)
	}
}

// somePlaces are all numbers of places that are not great, and some others.
func somePlaces() []int {
	var out []int
	for places := range 520 {
		out = append(out, places)
	}
	return append(out, 600, 777, 1000, 1500, 2000, 2500, 4000, 5000, 10000)
}

// Every constant, some arcs and some logarithms: less than 2 steps off.
func TestStepsOfNumbers(t *testing.T) {
	for _, places := range somePlaces() {
		for c := range api.Const(constsCount) {
			wantNear(t, "a constant", places, numberOf(c))
		}
		for _, k := range []int{2, 3, 5, 239, 19999, api.MaxIndex} {
			wantNear(t, "an arc tangent", places, partOf(k, false).value)
			wantNear(t, "a hyperbolic arc", places, partOf(k, true).value)
		}
		for _, k := range []int{3, 7, 11, 11587, 11664, 16384, 16807, 19683, 19997, api.MaxIndex} {
			wantNear(t, "a logarithm", places, logarithmOf(k).value)
		}
	}
}

// An arc whose rise is above 1, or below 0.
func TestStepsOfArcs(t *testing.T) {
	for _, places := range somePlaces() {
		for _, rise := range []int{-160, -3, 2, 7, 160} {
			for _, run := range []int{321, 1001, 40001} {
				wantNear(t, "an arc", places, arc{rise: rise, run: run, hyperbolic: places%2 == 0}.value)
			}
		}
	}
}

// allSeries are series of each kind: with one sign and with both, with weights
// and without, with quotients that are at most 1/2, or far less.
func allSeries() []series {
	one := func(n int) api.Whole { return whole.Of(1) }
	return []series{
		{over: one, under: func(n int) api.Whole { return whole.Of(n + 1) }, weight: one},
		{over: one, under: func(n int) api.Whole { return whole.Of(2) }, weight: one},
		{over: func(n int) api.Whole { return whole.Of(-1) }, under: func(n int) api.Whole { return whole.Of(2) }, weight: one},
		{over: func(n int) api.Whole { return whole.Of(1 - 2*n) }, under: func(n int) api.Whole { return whole.Of(8*n + 4) }, weight: one},
		{
			over:   func(n int) api.Whole { return times(-n, n, n, n, n) },
			under:  func(n int) api.Whole { d := 2*n + 1; return times(32*d, d, d, d, d) },
			weight: func(n int) api.Whole { return whole.Of((205*n+250)*n + 77) },
		},
	}
}

// What follows a term: less than 2 steps off, also with places below 0, and at
// most the weight.
func TestStepsOfWhatFollows(t *testing.T) {
	for _, s := range allSeries() {
		for _, n := range []int{1, 2, 3, 10, 100, 5000} {
			for places := -60; places < 600; places++ {
				value := func(places int) api.Whole { return s.from(n, places) }
				wantNear(t, "what follows a term", places, value)
			}
			size := s.from(n, more).Abs
			if nat.Compare(size, moved(plus(s.weight(n), whole.Of(1)), more).Abs) > 0 {
				t.Errorf("what follows the term %d is more than its weight", n)
			}
		}
	}
}

// A run by halves is what its terms come to one by one.
func TestRuns(t *testing.T) {
	for _, s := range allSeries() {
		for _, from := range []int{1, 2, 7, 1000} {
			under, over, sum := whole.Of(1), whole.Of(1), whole.Of(0)
			for to := from + 1; to < from+40; to++ {
				n := to - 1
				under, over = product(under, s.under(n)), product(over, s.over(n))
				sum = plus(product(sum, s.under(n)), product(over, s.weight(n)))
				u, o, all := s.run(from, to)
				if whole.Compare(u, under) != 0 || whole.Compare(o, over) != 0 || whole.Compare(all, sum) != 0 {
					t.Fatalf("the run from %d ahead of %d", from, to)
				}
			}
		}
	}
}

// A run has some terms, and denominators of no more bits than are asked for.
func TestEnds(t *testing.T) {
	for _, s := range allSeries() {
		for _, n := range []int{1, 2, 10, 1000, 100000} {
			for _, places := range []int{-100, 0, 1, 64, 255, 256, 257, 1000, 4096, 30000} {
				count := s.end(n, places) - n
				if count < fewestTerms {
					t.Errorf("a run from %d with %d places has %d terms", n, places, count)
				}
				under, _, _ := s.run(n, n+count)
				if bits := nat.Length(under.Abs); count > fewestTerms && bits > max(places, fewestBits) {
					t.Errorf("a run from %d with %d places has denominators of %d bits", n, places, bits)
				}
			}
		}
	}
}

// The nearest smooth number is nearest, and of what is left of k little is.
func TestSmoothNumbers(t *testing.T) {
	var smooth []int
	for two := 1; two <= 1<<16; two *= 2 {
		for three := two; three <= 1<<16; three *= 3 {
			for five := three; five <= 1<<16; five *= 5 {
				for seven := five; seven <= 1<<16; seven *= 7 {
					smooth = append(smooth, seven)
				}
			}
		}
	}
	for k := 1; k <= api.MaxIndex; k++ {
		least := k
		for _, n := range smooth {
			least = min(least, max(n-k, k-n))
		}
		near := smoothNear(k)
		if max(near-k, k-near) != least || !isSmooth(near) {
			t.Fatalf("%d is near %d", near, k)
		}
		l := logarithmOf(k)
		if size := max(l.rest.rise, -l.rest.rise); 20*size > l.rest.run {
			t.Errorf("of %d %d/%d is left", k, l.rest.rise, l.rest.run)
		}
		sum := 0
		for _, count := range l.counts {
			sum += max(count, -count)
		}
		if sum >= 1<<13 {
			t.Errorf("the logarithm of %d has %d arcs", k, sum)
		}
	}
}

// Bits that the first look does not tell: numbers that are so near a whole one
// that some or many more are needed.
func TestBitsThatAreNotSure(t *testing.T) {
	for _, apart := range []int{1, 5, 15, 16, 17, 18, 31, 32, 33, 64, 100, 1000} {
		looks := 0
		near := func(side int) number {
			return func(places int) api.Whole {
				looks++
				return plus(moved(whole.Of(5), places), product(whole.Of(side), moved(golden(places), -apart)))
			}
		}
		for _, p := range []int{0, 1, 10, 300} {
			factor := api.Dyadic{Man: whole.Of(1), Exp: p}
			want := moved(golden(p+more), -apart-more)
			above := plus(moved(whole.Of(5), p), want)
			if got := near(1).below(factor); whole.Compare(got, above) != 0 {
				t.Errorf("2^-%d above 5 at %d", apart, p)
			}
			below := minus(minus(moved(whole.Of(5), p), want), whole.Of(1))
			if got := near(-1).below(factor); whole.Compare(got, below) != 0 {
				t.Errorf("2^-%d below 5 at %d", apart, p)
			}
		}
		if apart == 1000 && looks < 2*4*5 {
			t.Errorf("%d looks were enough", looks)
		}
	}
}
