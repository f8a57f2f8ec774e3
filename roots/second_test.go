package roots_test

import (
	"testing"

	"surd/api"
	"surd/div"
	"surd/mul"
	"surd/nat"
	"surd/roots"
)

// wantRoot asks for that root and that rest.
func wantRoot(t *testing.T, what string, root, rest api.Nat, e api.Errno, wantedRoot, wantedRest api.Nat) {
	t.Helper()
	wantOK(t, what+": root", root, e, wantedRoot)
	wantOK(t, what+": rest", rest, e, wantedRest)
}

// wantSecond asks Sqrt, Ceil and IsSquare of a for what follows from its root
// and its rest.
func wantSecond(t *testing.T, what string, a, root, rest api.Nat) {
	t.Helper()
	r, s, e := roots.Sqrt(a)
	wantRoot(t, "Sqrt of "+what, r, s, e, root, rest)
	is, e := roots.IsSquare(a)
	if is != isZero(rest) || e != api.OK {
		t.Errorf("IsSquare of %s: %v, error %d", what, is, e)
	}
	if !is {
		root = plus(t, root, api.Nat{1})
	}
	c, e := roots.Ceil(a)
	wantOK(t, "Ceil of "+what, c, e, root)
}

// The chapter's example 1.
func TestExamplesOfSecondRoots(t *testing.T) {
	wantSecond(t, "0", nil, nil, nil)
	wantSecond(t, "15", api.Nat{15}, api.Nat{3}, api.Nat{6})
	wantSecond(t, "16", api.Nat{16}, api.Nat{4}, nil)
	wantSecond(t, "17", api.Nat{17}, api.Nat{4}, api.Nat{1})
	wantSecond(t, "2^64", api.Nat{0, 1}, api.Nat{1 << 32}, nil)
}

// P4.1: every small number.
func TestSmallSecondRoots(t *testing.T) {
	root := uint64(0)
	for v := range uint64(70000) {
		if (root+1)*(root+1) <= v {
			root++
		}
		wantSecond(t, "a small number", nat.From(v), nat.From(root), nat.From(v-root*root))
	}
}

// P4.1, P4.7: samples, and the numbers beside their squares, in all shapes.
func TestSecondRoots(t *testing.T) {
	one := api.Nat{1}
	for _, a := range samples() {
		root := modelSecond(t, a)
		wantSecond(t, "a sample", a, root, minus(t, a, times(t, root, root)))
		if isZero(a) {
			continue
		}
		square := times(t, a, a)
		wantSecond(t, "a square", append(square, 0), a, nil)
		wantSecond(t, "a square and 1", plus(t, square, one), a, one)
		double := plus(t, a, a)
		wantSecond(t, "the last one with that root", plus(t, square, double), a, double)
		below := minus(t, a, one)
		wantSecond(t, "a square less 1", minus(t, square, one), below, plus(t, below, below))
	}
}

// P4.7: root and rest make the number, and the rest is at most twice the
// root. Long numbers of all lengths.
func TestLongSecondRoots(t *testing.T) {
	m := mix(2)
	for limbs := range 120 {
		for _, a := range []api.Nat{m.nat(limbs), m.runs(limbs), m.full(3 * limbs), ones(64*limbs + m.below(64))} {
			r, s, e := roots.Sqrt(a)
			wantOK(t, "root^2 + rest", plus(t, times(t, r, r), s), e, a)
			if nat.Compare(s, plus(t, r, r)) > 0 {
				t.Errorf("Sqrt of %v: the rest %v is too great", short(a), short(s))
			}
		}
	}
}

// P4.1, P4.12: a number that leaves the rests of squares and is none; and
// squares that leave the rest 0 by what IsSquare divides by.
func TestSquaresByRests(t *testing.T) {
	all := api.Nat{1}
	for _, p := range []uint64{2, 3, 3, 5, 7, 11, 13, 17, 19, 23, 29, 31, 37, 41, 43, 47, 53, 59, 61, 64} {
		all = times(t, all, api.Nat{p})
	}
	for v := uint64(1); v < 200; v++ {
		root := times(t, all, nat.From(v))
		square := times(t, root, root)
		wantSecond(t, "a multiple's square", square, root, nil)
		// It leaves the rests of v^2, by each of those numbers.
		a := plus(t, all, nat.From(v*v))
		r := modelSecond(t, a)
		wantSecond(t, "a multiple and a square", a, r, minus(t, a, times(t, r, r)))
	}
}

// P4.9: of a number that is not less the root is not less, and of the next
// number it is at most one more.
func TestOrderOfSecondRoots(t *testing.T) {
	m := mix(3)
	last := api.Nat(nil)
	lastRoot := api.Nat(nil)
	for range 3000 {
		a := plus(t, last, nat.From(m.next()>>(m.next()%64)))
		root, _, e := roots.Sqrt(a)
		if e != api.OK || nat.Compare(root, lastRoot) < 0 {
			t.Fatalf("the root of %v is %v, error %d", a, root, e)
		}
		next, _, e := roots.Sqrt(plus(t, a, api.Nat{1}))
		if by := minus(t, next, root); e != api.OK || nat.Length(by) > 1 {
			t.Errorf("from %v on the root grows by %v", a, by)
		}
		last, lastRoot = a, root
	}
}

// P4.1, R6: at the limit of what may be answered. What is handed in may be
// longer.
func TestSecondRootsAtTheLimit(t *testing.T) {
	const most = api.MaxBits
	// The square of 2^(most - 1), and that of the next number, less 1.
	first, half := power(2*most-2), power(most-1)
	wantSecond(t, "2^(2 MaxBits - 2)", first, half, nil)
	first[most/64] = 1
	r, s, e := roots.Sqrt(first)
	wantErr(t, "a rest 2^MaxBits", e, api.ErrBig, r, s)
	c, e := roots.Ceil(first)
	half[0] = 1
	wantOK(t, "Ceil of 2^(2 MaxBits - 2) + 2^MaxBits", c, e, half)
	wantIsSquare(t, "a square less 1", first, false)
	first[0] = 1
	wantSecond(t, "the square of 2^(MaxBits - 1) + 1", first, half, nil)

	full := ones(2 * most)
	r, s, e = roots.Sqrt(full)
	wantErr(t, "Sqrt of 2^(2 MaxBits) - 1", e, api.ErrBig, r, s)
	c, e = roots.Ceil(full)
	wantErr(t, "Ceil of 2^(2 MaxBits) - 1", e, api.ErrBig, c)

	over := power(2 * most)
	r, s, e = roots.Sqrt(over)
	wantErr(t, "Sqrt of 2^(2 MaxBits)", e, api.ErrBig, r, s)
	c, e = roots.Ceil(over)
	wantErr(t, "Ceil of 2^(2 MaxBits)", e, api.ErrBig, c)
	wantIsSquare(t, "2^(2 MaxBits)", over, true)
	wantIsSquare(t, "2^(2 MaxBits + 1)", power(2*most+1), false)
}

// P4.1: whether a number is a square is told of one however long; its root
// may have more bits than may be answered.
func TestLongSquares(t *testing.T) {
	const far = 5 * api.MaxBits / 2
	a := power(2 * far)
	a[0] = 1
	wantIsSquare(t, "a square and 1", a, false)
	a[0], a[far/64] = 1, 2
	wantIsSquare(t, "the square of 2^far + 1", a, true)
	a[0] = 9
	wantIsSquare(t, "that and 8", a, false)
	// (2^far + 2^6 k)^2, k being 2^50 + 1.
	k := times(t, api.Nat{64}, plus(t, power(50), api.Nat{1}))
	a = append(times(t, k, k), make(api.Nat, 2*far/64)...)
	copy(a[far/64:], must(t)(nat.Left(k, 1)))
	a[2*far/64] = 1
	wantIsSquare(t, "the square of 2^far + k", a[:2*far/64+1], true)
}

// wantIsSquare asks IsSquare alone.
func wantIsSquare(t *testing.T, what string, a api.Nat, want bool) {
	t.Helper()
	if is, e := roots.IsSquare(a); is != want || e != api.OK {
		t.Errorf("IsSquare of %s: %v, error %d", what, is, e)
	}
}

// The chapter's example 4, of Step.
func TestExamplesOfSteps(t *testing.T) {
	for _, c := range [][3]uint64{{100, 100, 50}, {100, 10, 10}, {2, 1, 1}, {8, 2, 3}, {0, 1, 0}, {0, 7, 3}} {
		x, e := roots.Step(nat.From(c[0]), nat.From(c[1]))
		wantOK(t, "Step", x, e, nat.From(c[2]))
	}
	x, e := roots.Step(api.Nat{1}, nil)
	wantErr(t, "Step from 0", e, api.ErrDivZero, x)
}

// P4.5: what Newton's next is.
func TestSteps(t *testing.T) {
	for _, a := range samples() {
		for _, x := range samples() {
			got, e := roots.Step(a, x)
			if isZero(x) {
				wantErr(t, "Step from 0", e, api.ErrDivZero, got)
				continue
			}
			sum := plus(t, x, must(t)(div.Quo(a, x)))
			wantOK(t, "Step", got, e, must(t)(nat.Right(sum, 1)))
		}
	}
}

// P4.10: from above the root a step comes down, and never below the root;
// from the root it is that, or one more.
func TestStepsComeDown(t *testing.T) {
	m := mix(4)
	for _, a := range append(samples(), m.full(30), m.runs(61)) {
		if isZero(a) {
			continue
		}
		root, _, _ := roots.Sqrt(a)
		for _, d := range []uint64{0, 1, 2, 5, 1 << 40} {
			wantStep(t, a, root, plus(t, root, api.Nat{d}))
			if nat.Compare(root, api.Nat{d}) > 0 {
				wantStep(t, a, root, minus(t, root, api.Nat{d}))
			}
		}
		wantStep(t, a, root, a)
		wantStep(t, a, root, api.Nat{1})
		wantStep(t, a, root, times(t, a, a))
	}
}

// wantStep asks for P4.10 of one step.
func wantStep(t *testing.T, a, root, x api.Nat) {
	t.Helper()
	got := must(t)(roots.Step(a, x))
	switch {
	case nat.Compare(got, root) < 0:
		t.Errorf("Step(%v, %v) is %v, below the root", short(a), short(x), short(got))
	case nat.Compare(x, root) > 0 && nat.Compare(got, x) >= 0:
		t.Errorf("Step(%v, %v) is %v, and does not come down", short(a), short(x), short(got))
	case nat.Compare(x, root) == 0 && nat.Length(minus(t, got, root)) > 1:
		t.Errorf("Step(%v, %v) is %v, not the root or one more", short(a), short(x), short(got))
	}
}

// P4.10: Newton's steps lead from above to the root.
func TestStepsToTheRoot(t *testing.T) {
	m := mix(5)
	for limbs := range 40 {
		a := m.full(limbs + 1)
		x := a
		for {
			next := must(t)(roots.Step(a, x))
			if nat.Compare(next, x) >= 0 {
				break
			}
			x = next
		}
		root, _, e := roots.Sqrt(a)
		wantOK(t, "the root by steps", root, e, x)
	}
}

// P4.5, R6: ErrBig is asked of the half alone, not of the sum or of what is
// handed in; and behind ErrDivZero.
func TestStepsAtTheLimit(t *testing.T) {
	const most = api.MaxBits
	x, e := roots.Step(power(most), api.Nat{1})
	wantOK(t, "Step(2^MaxBits, 1)", x, e, power(most-1))
	x, e = roots.Step(power(most+1), api.Nat{1})
	wantErr(t, "Step(2^(MaxBits + 1), 1)", e, api.ErrBig, x)
	x, e = roots.Step(nil, ones(most+1))
	wantOK(t, "Step(0, 2^(MaxBits + 1) - 1)", x, e, ones(most))
	x, e = roots.Step(nil, power(most+1))
	wantErr(t, "Step(0, 2^(MaxBits + 1))", e, api.ErrBig, x)
	x, e = roots.Step(power(2*most-1), power(most))
	wantOK(t, "Step(2^(2 MaxBits - 1), 2^MaxBits)", x, e, must(t)(nat.Left(api.Nat{3}, most-2)))
	x, e = roots.Step(power(2*most), power(most))
	wantErr(t, "Step(2^(2 MaxBits), 2^MaxBits)", e, api.ErrBig, x)
	x, e = roots.Step(ones(most+1), ones(most+1))
	wantErr(t, "Step of a number by itself", e, api.ErrBig, x)
	// A third of 2^(MaxBits + 2) has MaxBits + 1 bits, of which each second one
	// is 1.
	want := make(api.Nat, most/64)
	for i := range want {
		want[i] = 0xaaaaaaaaaaaaaaaa
	}
	want[0] += 2
	x, e = roots.Step(power(most+2), api.Nat{3})
	wantOK(t, "Step(2^(MaxBits + 2), 3)", x, e, want)
	x, e = roots.Step(power(3*most), api.Nat{1})
	wantErr(t, "Step(2^(3 MaxBits), 1)", e, api.ErrBig, x)
	x, e = roots.Step(power(3*most), nil)
	wantErr(t, "Step(2^(3 MaxBits), 0)", e, api.ErrDivZero, x)
	x, e = roots.Step(nil, ones(3*most))
	wantErr(t, "Step(0, 2^(3 MaxBits) - 1)", e, api.ErrBig, x)
}

// P4.1: a long number's root ends soon.
func TestLongSecondRootEndsSoon(t *testing.T) {
	m := mix(6)
	root := m.full(1 << 14)
	square := must(t)(mul.Square(root))
	wantSecond(t, "a long square", square, root, nil)
	wantSecond(t, "a long square and its root", plus(t, square, root), root, root)
}
