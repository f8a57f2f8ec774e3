package series

import (
	"testing"

	"surd/api"
	"surd/nat"
	"surd/whole"
)

// These tests hold what the functions inside are off against what their remarks
// say: the same number is asked for on a grid that is so much finer that what it
// is off there does not tell.
const more = 80

// off is how many steps of g a value is away from the one of the finer grid,
// rounded up.
func off(t *testing.T, g grid, x api.Whole, value func(g grid, x api.Whole) api.Whole) int {
	t.Helper()
	apart := minus(moved(value(g, x), more), value(g+more, moved(x, more)))
	steps, e := nat.Right(apart.Abs, more)
	n, ok := nat.Small(steps)
	if e != api.OK || !ok || n > 1<<40 {
		t.Fatalf("on the grid %d: far off", g)
	}
	return int(n) + 1
}

// arguments are numbers on a grid of at most 2^top in size: all of them, if they
// are not too many.
func arguments(g grid, top int) []api.Whole {
	end := moved(g.one(), top)
	if g <= 10 {
		var out []api.Whole
		n, _ := whole.Int(end)
		for i := -n; i <= n; i++ {
			out = append(out, whole.Of(i))
		}
		return out
	}
	var out []api.Whole
	for _, d := range []int{1, 2, 3, 5, 7, 64, 1000} {
		part := through(end, d)
		out = append(out, part, opposite(part), minus(part, whole.Of(1)), through(times(end, 2*d-1), 2*d))
	}
	for depth := 1; depth < int(g); depth += 1 + depth/2 {
		out = append(out, through(times(moved(end, -depth), 2), 3))
	}
	return out
}

// grids are all small ones, and some others.
func grids() []grid {
	var out []grid
	for g := grid(9); g < 140; g++ {
		out = append(out, g)
	}
	return append(out, 200, 343, 344, 511, 512, 513, 729, 1000, 1331, 2000, 2197, 3000, 4096, 8000)
}

// Exp, sine and cosine: less than 2 steps off.
func TestStepsOfReduced(t *testing.T) {
	for _, g := range grids() {
		for _, x := range arguments(g, 0) {
			for i, value := range []func(g grid, x api.Whole) api.Whole{exponential, sine, cosine} {
				if n := off(t, g, x, value); n > 2 {
					t.Errorf("function %d on the grid %d: %d steps off", i, g, n)
				}
			}
		}
	}
}

// Arcs: less than 2 steps off by their series, at most 17 by a rough one.
func TestStepsOfArcs(t *testing.T) {
	rough := 0
	for _, g := range grids() {
		for _, x := range arguments(g, -1) {
			for i, a := range []arc{circle(), hyperbola()} {
				if g.isLong(x) {
					rough++
				}
				if n := off(t, g, x, a.at); n > 17 {
					t.Errorf("arc %d on the grid %d: %d steps off", i, g, n)
				}
				if g > 1000 {
					continue
				}
				if n := off(t, g, x, a.bySeries); n > 2 {
					t.Errorf("arc %d on the grid %d by its series: %d steps off", i, g, n)
				}
			}
		}
	}
	if rough < 1000 {
		t.Errorf("%d arcs alone were found roughly first", rough)
	}
}

// A turn: at most 8 steps off, of arcs up to 0.6.
func TestStepsOfTurns(t *testing.T) {
	for _, g := range grids() {
		for _, x := range arguments(g, 0) {
			z := through(times(x, 3), 5)
			for i, a := range []arc{circle(), hyperbola()} {
				rise := func(g grid, z api.Whole) api.Whole { made, _ := a.turn(g, z); return made }
				run := func(g grid, z api.Whole) api.Whole { _, made := a.turn(g, z); return made }
				if n := max(off(t, g, z, rise), off(t, g, z, run)); n > 8 {
					t.Errorf("turn %d on the grid %d: %d steps off", i, g, n)
				}
			}
		}
	}
}

// A series: less than 64 steps off for each place, whatever it shrinks by.
func TestStepsOfSeries(t *testing.T) {
	nexts := []func(n int, c api.Whole) api.Whole{
		func(n int, c api.Whole) api.Whole { return through(c, n) },
		func(n int, c api.Whole) api.Whole { return through(times(c, 2*n-1), 2*n+1) },
		func(n int, c api.Whole) api.Whole { return c },
	}
	for _, g := range grids() {
		if g < 16 || g > 1000 {
			continue
		}
		for _, y := range arguments(g, -1) {
			for i, next := range nexts {
				value := func(g grid, y api.Whole) api.Whole { return seriesOf(g, g.one(), y, next).value() }
				if n := off(t, g, y, value); n > 64*int(g) {
					t.Errorf("series %d on the grid %d: %d steps off", i, g, n)
				}
			}
		}
	}
}

// Terms can be left, and gone over again.
func TestTermsAreLeft(t *testing.T) {
	const g = grid(100)
	s := seriesOf(g, g.one(), moved(g.one(), -3), func(n int, c api.Whole) api.Whole { return through(c, n) })
	for range 3 {
		told := 0
		for n, term := range s.terms {
			if n != told || whole.Sign(term) <= 0 {
				t.Fatalf("term %d in place of %d", n, told)
			}
			if told++; told == 10 {
				break
			}
		}
		if told != 10 {
			t.Fatalf("%d terms", told)
		}
	}
}

// On 64 places or fewer no series is long: a rough arc's grid would not be the
// coarser one there.
func TestFewPlacesAreNotLong(t *testing.T) {
	for g := grid(1); g <= 64; g++ {
		for _, x := range []api.Whole{{}, whole.Of(1), moved(g.one(), -1), minus(moved(g.one(), -1), whole.Of(1)), moved(g.one(), -2)} {
			if g.isLong(x) {
				t.Errorf("a long series on the grid %d", g)
			}
		}
	}
}
