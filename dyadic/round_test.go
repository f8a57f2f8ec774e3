package dyadic_test

import (
	"math"
	"testing"

	"surd/api"
	"surd/dyadic"
	"surd/nat"
	"surd/whole"
)

// The chapter's examples 2 and 3.
func TestExamplesOfRounding(t *testing.T) {
	for _, c := range []struct {
		a    api.Dyadic
		pos  int
		m    api.Mode
		want api.Dyadic
	}{
		{of(5, -1), 0, api.Down, of(1, 1)}, {of(5, -1), 0, api.Up, of(3, 0)}, {of(5, -1), 0, api.Near, of(1, 1)}, {of(7, -1), 0, api.Near, of(1, 2)}, {of(-5, -1), 0, api.Near, of(-1, 1)},
		{of(1, -5), 0, api.Up, of(1, 0)}, {of(1, -5), 0, api.Near, of(0, 0)}, {of(3, 0), 1, api.Near, of(1, 2)},
	} {
		got, e := dyadic.Round(c.a, c.pos, c.m)
		want(t, "Round", got, e, c.want)
	}
	for _, c := range []struct {
		m, bits int
		mode    api.Mode
		want    api.Dyadic
	}{{13, 3, api.Down, of(3, 2)}, {13, 3, api.Up, of(7, 1)}, {13, 3, api.Near, of(3, 2)}, {15, 2, api.Up, of(1, 4)}} {
		got, e := dyadic.Cut(of(c.m, 0), c.bits, c.mode)
		want(t, "Cut", got, e, c.want)
	}
	w, e := dyadic.Whole(of(-7, -1), api.Down)
	wantWhole(t, "Whole(-7p-1, Down)", w, e, whole.Of(-4))
}

// steps is how many steps of 2^k, k from 0 on, n is, by ints.
func steps(n, k int, m api.Mode) int {
	down := n >> k
	// Twice what is left, less a step.
	side := 2*(n-down<<k) - 1<<k
	switch {
	case m == api.Up && n != down<<k, m == api.Near && (side > 0 || side == 0 && down%2 != 0):
		return down + 1
	}
	return down
}

// P8.4, P8.5: small numbers at all positions about them, by ints.
func TestRoundingOfInts(t *testing.T) {
	for n := -70; n <= 70; n++ {
		for exp := -8; exp <= 2; exp++ {
			for _, m := range modes() {
				for k := -3; k <= 9; k++ {
					got, e := dyadic.Round(of(n, exp), exp+k, m)
					wanted := of(n, exp)
					if k >= 0 {
						wanted = of(steps(n, k, m), exp+k)
					}
					want(t, "Round", got, e, wanted)
				}
				w, e := dyadic.Whole(of(n, exp), m)
				wantWhole(t, "Whole", w, e, whole.Of(steps(n<<max(exp, 0), max(-exp, 0), m)))
			}
		}
	}
}

// rounded is a number at a position, by a division of whole numbers.
func rounded(t *testing.T, a api.Dyadic, pos int, m api.Mode) api.Dyadic {
	t.Helper()
	unit := min(a.Exp, pos)
	step := laid(t, of(1, pos), unit)
	divide := []func(a, b api.Whole) (api.Whole, api.Whole, api.Errno){api.Down: whole.Floor, api.Up: whole.Ceil, api.Near: whole.Near}[m]
	q, _, e := divide(laid(t, a, unit), step)
	if e != api.OK {
		t.Fatalf("error %d", e)
	}
	return api.Dyadic{Man: q, Exp: pos}
}

// places are positions about a number's ends, and farther off.
func places(a api.Dyadic) []int {
	low := a.Exp + nat.Tail(a.Man.Abs)
	top := a.Exp + nat.Length(a.Man.Abs)
	out := []int{low - 500, top + 500, top + 64, (low + top) / 2, low + 63, low + 64, low + 65}
	for d := -2; d <= 3; d++ {
		out = append(out, low+d, top+d)
	}
	return out
}

// P8.4: samples at positions about their ends, by whole numbers.
func TestRound(t *testing.T) {
	for _, a := range samples() {
		for _, pos := range places(a) {
			for _, m := range modes() {
				got, e := dyadic.Round(a, pos, m)
				want(t, "Round", got, e, rounded(t, a, pos, m))
			}
		}
	}
}

// P8.4: halves of a step, and what is next to them, of all lengths and signs.
func TestHalves(t *testing.T) {
	drawn := mix(3)
	for i := range 300 {
		size := drawn.nat(1 + i%5)
		size[0] |= 1
		pos := drawn.below(300) - 150
		for _, a := range []api.Dyadic{above(size, pos-1), below(size, pos-1)} {
			for _, b := range []api.Dyadic{a, add(t, a, of(1, pos-90)), add(t, a, of(-1, pos-90)), add(t, a, of(1, pos-2))} {
				for _, m := range modes() {
					got, e := dyadic.Round(b, pos, m)
					want(t, "Round", got, e, rounded(t, b, pos, m))
				}
			}
		}
	}
}

// add is a + b.
func add(t *testing.T, a, b api.Dyadic) api.Dyadic {
	t.Helper()
	return must[api.Dyadic](t)(dyadic.Add(a, b))
}

// less is a - b.
func less(t *testing.T, a, b api.Dyadic) api.Dyadic {
	t.Helper()
	return must[api.Dyadic](t)(dyadic.Sub(a, b))
}

// isBelow: is a less than b?
func isBelow(t *testing.T, a, b api.Dyadic) bool {
	t.Helper()
	return must[int](t)(dyadic.Compare(a, b)) < 0
}

// P8.11, P8.14: each rounding is at its position, on its side, and near enough;
// Near is at least as near as the others.
func TestLawsOfRounding(t *testing.T) {
	drawn := mix(4)
	size := func(a api.Dyadic) api.Dyadic { return must[api.Dyadic](t)(dyadic.Abs(a)) }
	for i := range 400 {
		a := drawn.dyadic(1 + i%4)
		pos := drawn.below(600) - 300
		down := must[api.Dyadic](t)(dyadic.Round(a, pos, api.Down))
		up := must[api.Dyadic](t)(dyadic.Round(a, pos, api.Up))
		near := must[api.Dyadic](t)(dyadic.Round(a, pos, api.Near))
		for j, r := range []api.Dyadic{down, up, near} {
			if dyadic.Sign(r) != 0 && r.Exp < pos {
				t.Errorf("%v is not at %d", short(r), pos)
			}
			want(t, "what is there already", must[api.Dyadic](t)(dyadic.Round(r, pos, modes()[j])), api.OK, r)
		}
		below, above, off := less(t, a, down), less(t, up, a), size(less(t, near, a))
		for _, d := range []api.Dyadic{below, above} {
			if dyadic.Sign(d) < 0 || !isBelow(t, d, of(1, pos)) || isBelow(t, d, off) {
				t.Errorf("%v at %d: %v, %v, %v", short(a), pos, short(down), short(up), short(near))
			}
		}
		if isBelow(t, of(1, pos-1), off) {
			t.Errorf("Near of %v at %d: %v", short(a), pos, short(near))
		}
	}
}

// P8.11, P8.12: Round of Round, the order, and opposites.
func TestMoreLawsOfRounding(t *testing.T) {
	round := func(a api.Dyadic, pos int, m api.Mode) api.Dyadic {
		return must[api.Dyadic](t)(dyadic.Round(a, pos, m))
	}
	drawn := mix(5)
	for i := range 400 {
		a, b := drawn.dyadic(1+i%4), drawn.dyadic(1+i%4)
		if i%2 == 0 {
			b = add(t, a, of(1, drawn.below(300)-150))
		}
		if isBelow(t, b, a) {
			a, b = b, a
		}
		pos, more := drawn.below(500)-250, drawn.below(100)
		for _, m := range modes() {
			if isBelow(t, round(b, pos, m), round(a, pos, m)) {
				t.Errorf("%v and %v at %d change sides", short(a), short(b), pos)
			}
		}
		for _, m := range []api.Mode{api.Down, api.Up} {
			want(t, "Round of Round", round(round(a, pos, m), pos+more, m), api.OK, round(a, pos+more, m))
		}
		opposite := must[api.Dyadic](t)(dyadic.Neg(a))
		want(t, "Down", round(opposite, pos, api.Down), api.OK, minus(round(a, pos, api.Up)))
		want(t, "Up", round(opposite, pos, api.Up), api.OK, minus(round(a, pos, api.Down)))
		want(t, "Near", round(opposite, pos, api.Near), api.OK, minus(round(a, pos, api.Near)))
	}
}

// P8.4: Cut is Round at a position that the top tells.
func TestCut(t *testing.T) {
	for _, a := range samples() {
		length := must[int](t)(dyadic.Length(a))
		for _, bits := range []int{1, 2, 3, 63, 64, 65, length - 1, length, length + 1, 5000, 1 << 40, 1<<40 + 1, 1 << 62, math.MaxInt} {
			if bits < 1 {
				continue
			}
			for _, m := range modes() {
				got, e := dyadic.Cut(a, bits, m)
				wanted := canonical(a)
				if bits < length {
					wanted = rounded(t, a, must[int](t)(dyadic.Top(a))-bits+1, m)
				}
				want(t, "Cut", got, e, wanted)
			}
		}
	}
}

// P8.13: Cut's length, how far it is off, and what is short enough.
func TestLawsOfCut(t *testing.T) {
	drawn := mix(6)
	for i := range 400 {
		a := drawn.dyadic(1 + i%5)
		bits := 1 + drawn.below(250)
		for _, m := range modes() {
			c := must[api.Dyadic](t)(dyadic.Cut(a, bits, m))
			if must[int](t)(dyadic.Length(c)) > bits {
				t.Errorf("%v has more than %d bits", short(c), bits)
			}
			want(t, "what is short enough", must[api.Dyadic](t)(dyadic.Cut(c, bits, m)), api.OK, c)
			off := must[api.Dyadic](t)(dyadic.Abs(less(t, c, a)))
			most := must[api.Dyadic](t)(dyadic.Abs(must[api.Dyadic](t)(dyadic.Scale(a, 1-bits))))
			if m == api.Near {
				off = must[api.Dyadic](t)(dyadic.Scale(off, 1))
			}
			order := must[int](t)(dyadic.Compare(off, most))
			if dyadic.Sign(a) != 0 && (order > 0 || order == 0 && m != api.Near) {
				t.Errorf("Cut(%v, %d, %d): %v", short(a), bits, m, short(c))
			}
		}
	}
}

// P8.4, P8.5, R2: wrong arguments, from the left.
func TestRoundingRefused(t *testing.T) {
	numbers := append(samples()[:9], of(1, far), of(3, -far), above(powerAnd(api.MaxBits, 1), 0))
	for _, a := range numbers {
		for _, mode := range []api.Mode{-1, 3, math.MaxInt, math.MinInt} {
			for _, pos := range []int{0, far, -far, 5} {
				got, e := dyadic.Round(a, pos, mode)
				wantErr(t, "Round's mode", got, e, api.ErrDyadicMode)
			}
			for _, bits := range []int{1, 2, math.MaxInt} {
				got, e := dyadic.Cut(a, bits, mode)
				wantErr(t, "Cut's mode", got, e, api.ErrDyadicMode)
			}
			w, e := dyadic.Whole(a, mode)
			wantErr(t, "Whole's mode", api.Dyadic{Man: w}, e, api.ErrDyadicMode)
		}
		for _, mode := range []api.Mode{api.Down, api.Up, api.Near, -1, 3} {
			for _, pos := range []int{far + 1, -far - 1, math.MaxInt, math.MinInt} {
				got, e := dyadic.Round(a, pos, mode)
				wantErr(t, "Round's position", got, e, api.ErrArg)
			}
			for _, bits := range []int{0, -1, math.MinInt} {
				got, e := dyadic.Cut(a, bits, mode)
				wantErr(t, "Cut's bits", got, e, api.ErrArg)
			}
		}
	}
}

// P8.4, R6: positions and exponents as far as may be.
func TestRoundingFarAway(t *testing.T) {
	for _, c := range []struct {
		a              api.Dyadic
		pos            int
		down, up, near api.Dyadic
	}{
		{of(1, -far), far, of(0, 0), of(1, far), of(0, 0)},
		{of(-1, -far), far, of(-1, far), of(0, 0), of(0, 0)},
		{of(1, far-1), far, of(0, 0), of(1, far), of(0, 0)},
		{of(0, far), -far, of(0, 0), of(0, 0), of(0, 0)},
		{of(5, far), -far, of(5, far), of(5, far), of(5, far)},
		{of(9, -far), -far + 2, of(1, -far+3), of(3, -far+2), of(1, -far+3)},
		{above(ones(90), far-90), far, of(0, 0), of(1, far), of(1, far)},
	} {
		for i, wanted := range []api.Dyadic{c.down, c.up, c.near} {
			got, e := dyadic.Round(c.a, c.pos, modes()[i])
			want(t, "Round", got, e, wanted)
		}
	}
	for i, wanted := range []int{0, 1, 0} {
		w, e := dyadic.Whole(of(3, -far), modes()[i])
		wantWhole(t, "Whole of a little", w, e, whole.Of(wanted))
		w, e = dyadic.Whole(of(1, far), modes()[i])
		wantErr(t, "Whole of much", api.Dyadic{Man: w}, e, api.ErrBig)
		w, e = dyadic.Whole(of(0, far), modes()[i])
		wantWhole(t, "Whole of 0", w, e, api.Whole{})
	}
	thrice := of(3, far-1) // one and a half of 2^far
	got, e := dyadic.Round(thrice, far, api.Down)
	want(t, "Down", got, e, of(1, far))
	for _, m := range []api.Mode{api.Up, api.Near} {
		got, e = dyadic.Round(thrice, far, m)
		wantErr(t, "twice 2^far", got, e, api.ErrDyadicExp)
		got, e = dyadic.Cut(thrice, 1, m)
		wantErr(t, "twice 2^far", got, e, api.ErrDyadicExp)
	}
	got, e = dyadic.Cut(thrice, 1, api.Down)
	want(t, "Cut", got, e, of(1, far))
	for _, m := range modes() {
		// Beyond 2^far stands only what is too far.
		got, e = dyadic.Cut(above(powerAnd(70, 1), far-9), 3, m)
		wantErr(t, "Cut beyond", got, e, api.ErrDyadicExp)
		got, e = dyadic.Cut(above(powerAnd(70, 1), far-9), 71, m)
		want(t, "Cut to its length", got, e, above(powerAnd(70, 1), far-9))
		got, e = dyadic.Cut(of(-7, -far), math.MaxInt, m)
		want(t, "Cut of the least", got, e, of(-7, -far))
		got, e = dyadic.Round(of(2, far), far, m)
		wantErr(t, "what is there, but too far", got, e, api.ErrDyadicExp)
	}
}

// P8.4, P8.5, R6: lengths at the limit, and numbers that are longer.
func TestRoundingOfLongNumbers(t *testing.T) {
	const n = api.MaxBits
	round := func(what string, a api.Dyadic, pos int, m api.Mode, wanted api.Dyadic) {
		t.Helper()
		got, e := dyadic.Round(a, pos, m)
		want(t, what, got, e, wanted)
		if top := must[int](t)(dyadic.Top(a)); pos <= top {
			got, e = dyadic.Cut(a, top-pos+1, m)
			want(t, what+", cut", got, e, wanted)
		}
	}
	big := func(what string, a api.Dyadic, pos int, m api.Mode) {
		t.Helper()
		got, e := dyadic.Round(a, pos, m)
		wantErr(t, what, got, e, api.ErrBig)
		got, e = dyadic.Cut(a, must[int](t)(dyadic.Top(a))-pos+1, m)
		wantErr(t, what+", cut", got, e, api.ErrBig)
	}
	long, longOnes := above(powerAnd(2*n, 1), 0), below(ones(2*n), 0)
	big("at its place", long, 0, api.Down)
	big("two bits", long, -2, api.Near)
	round("the last bit", long, 1, api.Down, of(1, 2*n))
	round("the last bit", long, 1, api.Near, of(1, 2*n))
	big("the last bit", long, 1, api.Up)
	round("half of it", long, n+1, api.Up, above(powerAnd(n-1, 1), n+1))
	big("half of it and one", long, n, api.Up)
	big("half of it and one", minus(long), n, api.Down)
	round("through all bits", longOnes, 1, api.Down, of(-1, 2*n))
	round("through all bits", longOnes, 1, api.Near, of(-1, 2*n))
	big("through all bits", longOnes, 1, api.Up)
	round("as long as may be", longOnes, n, api.Up, below(ones(n), n))
	big("longer", longOnes, n-1, api.Up)
	round("no more than a step", longOnes, 3*n, api.Near, api.Dyadic{})
	round("no more than a step", longOnes, 3*n, api.Down, of(-1, 3*n))

	whole := func(what string, a api.Dyadic, m api.Mode, wanted api.Whole) {
		t.Helper()
		got, e := dyadic.Whole(a, m)
		wantWhole(t, what, got, e, wanted)
	}
	bigWhole := func(what string, a api.Dyadic, m api.Mode) {
		t.Helper()
		got, e := dyadic.Whole(a, m)
		wantErr(t, what, api.Dyadic{Man: got}, e, api.ErrBig)
	}
	half := above(ones(n+1), -1)
	whole("full and a half", half, api.Down, api.Whole{Abs: ones(n)})
	bigWhole("full and a half", half, api.Up)
	bigWhole("full and a half", half, api.Near)
	whole("-full and a half", minus(half), api.Up, api.Whole{Neg: true, Abs: ones(n)})
	bigWhole("-full and a half", minus(half), api.Down)
	whole("2^(n-1)", of(-1, n-1), api.Near, api.Whole{Neg: true, Abs: power(n - 1)})
	bigWhole("2^n", of(1, n), api.Down)
	bigWhole("long", long, api.Down)
	whole("a long one's top", above(powerAnd(2*n, 1), -2*n), api.Down, api.Whole{Abs: api.Nat{1}})
}
