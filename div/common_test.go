package div_test

import (
	"testing"

	"surd/api"
	"surd/div"
	"surd/mul"
	"surd/nat"
)

// The chapter's example 3.
func TestExamplesOfCommon(t *testing.T) {
	wantNat(t, "Gcd(48, 36)", div.Gcd(api.Nat{48}, api.Nat{36}), api.Nat{12})
	wantNat(t, "Gcd(0, 5)", div.Gcd(nil, api.Nat{5}), api.Nat{5})
	l, e := div.Lcm(api.Nat{4}, api.Nat{6})
	wantOK(t, "Lcm(4, 6)", l, e, api.Nat{12})
	l, e = div.Lcm(nil, api.Nat{6})
	wantOK(t, "Lcm(0, 6)", l, e, nil)
}

// P3.2, P3.4: Gcd, of all pairs, and its step.
func TestGcd(t *testing.T) {
	for _, a := range samples() {
		for _, b := range samples() {
			want := modelGcd(t, a, b)
			wantNat(t, "Gcd", div.Gcd(a, b), want)
			if !isZero(b) {
				wantNat(t, "Gcd(b, Rest(a, b))", div.Gcd(b, must(t)(div.Rest(a, b))), want)
			}
		}
	}
}

// P3.2: Gcd of 0, in every shape.
func TestGcdOfZero(t *testing.T) {
	for _, zero := range []api.Nat{nil, {}, {0}, {0, 0, 0}} {
		for _, a := range samples() {
			wantNat(t, "Gcd(a, 0)", div.Gcd(a, zero), a)
			wantNat(t, "Gcd(0, a)", div.Gcd(zero, a), a)
		}
	}
}

// P3.2: Gcd of all small numbers, as one counts it out.
func TestSmallGcd(t *testing.T) {
	for a := range uint64(40) {
		for b := range uint64(40) {
			want := max(a, b)
			for want > 0 && (a%want > 0 || b%want > 0) {
				want--
			}
			wantNat(t, "Gcd", div.Gcd(api.Nat{a}, api.Nat{b}), api.Nat{want})
		}
	}
}

// P3.2: Gcd of numbers of all lengths, with a divisor in common, near to each
// other and far apart.
func TestGcdOfAllLengths(t *testing.T) {
	m := mix(6)
	for x := range 12 {
		for y := range 12 {
			for _, g := range []api.Nat{{1}, m.nat(1), m.runs(3), m.full(y)} {
				a, b := times(t, m.runs(x), g), times(t, m.full(y), g)
				wantNat(t, "Gcd", div.Gcd(a, b), modelGcd(t, a, b))
				wantNat(t, "Gcd(a b, a)", div.Gcd(times(t, a, b), a), modelGcd(t, times(t, a, b), a))
				near := plus(t, a, g)
				wantNat(t, "Gcd(a, a + g)", div.Gcd(a, near), g)
			}
		}
	}
}

// P3.2: Fibonacci's numbers take the most steps, all of them by 1, and the
// numbers 2^n - 1 the longest ones; of both the greatest common divisor is the
// one at the greatest common divisor.
func TestGcdByIndex(t *testing.T) {
	for _, c := range [][3]int{{300, 180, 60}, {1000, 999, 1}, {2000, 1500, 500}, {9973, 9972, 1}, {20000, 14000, 2000}} {
		fm, fn := must(t)(mul.Fibonacci(c[0])), must(t)(mul.Fibonacci(c[1]))
		wantNat(t, "Gcd of Fibonacci's", div.Gcd(fm, fn), must(t)(mul.Fibonacci(c[2])))
		wantNat(t, "Gcd of 2^n - 1", div.Gcd(ones(c[1]), ones(c[0])), ones(c[2]))
	}
}

// P3.2: great numbers end soon, with many twos too.
func TestGreatGcd(t *testing.T) {
	m := mix(7)
	g := m.full(1000)
	a, b := times(t, g, m.full(1000)), times(t, g, m.full(900))
	got := div.Gcd(a, b)
	if !div.Divides(got, g) || !div.Divides(a, got) || !div.Divides(b, got) {
		t.Error("Gcd of great numbers")
	}
	wantNat(t, "Gcd of what is left", div.Gcd(must(t)(div.Quo(a, got)), must(t)(div.Quo(b, got))), api.Nat{1})

	odd := m.full(1 << 16)
	wantNat(t, "Gcd(odd, 2^n)", div.Gcd(odd, power(1<<22)), api.Nat{1})
	twos := longer(odd, 1<<15)
	wantNat(t, "Gcd(odd 2^m, 2^n)", div.Gcd(power(1<<22), twos), power(64<<15))
}

// P3.2: Gcd knows no ErrBig.
func TestGcdBeyondTheLimit(t *testing.T) {
	far := ones(api.MaxBits + 640)
	wantNat(t, "Gcd(far, far)", div.Gcd(far, far), far)
	wantNat(t, "Gcd(far, 0)", div.Gcd(far, nil), far)
	wantNat(t, "Gcd(0, far)", div.Gcd(api.Nat{0, 0}, far), far)
	wantNat(t, "Gcd(far, 1)", div.Gcd(far, api.Nat{1}), api.Nat{1})
	wantNat(t, "Gcd(far 2^n, far 2^m)", div.Gcd(longer(far, 7), longer(far, 5)), longer(far, 5))
	wantNat(t, "Gcd of two far ones", div.Gcd(ones(api.MaxBits+1280), far), ones(128))
	wantNat(t, "Gcd(2^n, 2^m)", div.Gcd(power(api.MaxBits+9), power(api.MaxBits+3)), power(api.MaxBits+3))
}

// P3.2, P3.4: Gcd times Lcm is the product.
func TestLcm(t *testing.T) {
	for _, a := range samples() {
		for _, b := range samples() {
			l, e := div.Lcm(a, b)
			if isZero(a) || isZero(b) {
				wantOK(t, "Lcm of 0", l, e, nil)
				continue
			}
			wantOK(t, "Lcm Gcd", times(t, l, div.Gcd(a, b)), e, times(t, a, b))
			if !div.Divides(l, a) || !div.Divides(l, b) {
				t.Errorf("Lcm(%v, %v): %v", a, b, l)
			}
		}
	}
}

// P3.2: Lcm of all small numbers, as one counts it out.
func TestSmallLcm(t *testing.T) {
	for a := uint64(1); a < 30; a++ {
		for b := uint64(1); b < 30; b++ {
			want := a
			for want%b > 0 {
				want += a
			}
			l, e := div.Lcm(api.Nat{a, 0}, api.Nat{b})
			wantOK(t, "Lcm", l, e, api.Nat{want})
		}
	}
}

// P3.2, R6: ErrBig is asked of what Lcm answers alone.
func TestLcmAtTheLimit(t *testing.T) {
	full, over, half := ones(api.MaxBits), power(api.MaxBits), power(api.MaxBits-1)
	for _, b := range []api.Nat{{1}, full, {3}, {5}} {
		// 3 and 5 divide 2^n - 1, n being a multiple of 4.
		l, e := div.Lcm(full, b)
		wantOK(t, "Lcm of full", l, e, full)
	}
	l, e := div.Lcm(half, api.Nat{1 << 40})
	wantOK(t, "Lcm(half, 2^40)", l, e, half)
	l, e = div.Lcm(must(t)(nat.Right(half, 1)), api.Nat{6})
	wantOK(t, "Lcm(half / 2, 6)", l, e, must(t)(nat.Left(api.Nat{3}, api.MaxBits-2)))
	l, e = div.Lcm(half, api.Nat{3})
	wantErr(t, "Lcm(half, 3)", e, api.ErrBig, l)
	l, e = div.Lcm(api.Nat{7}, full)
	wantErr(t, "Lcm(7, full)", e, api.ErrBig, l)
	for _, b := range []api.Nat{{1}, {3}, over, full} {
		l, e = div.Lcm(over, b)
		wantErr(t, "Lcm of over", e, api.ErrBig, l)
		l, e = div.Lcm(b, over)
		wantErr(t, "Lcm of over, the other way round", e, api.ErrBig, l)
	}
	for _, zero := range []api.Nat{nil, {0, 0}} {
		l, e = div.Lcm(over, zero)
		wantOK(t, "Lcm(over, 0)", l, e, nil)
		l, e = div.Lcm(zero, over)
		wantOK(t, "Lcm(0, over)", l, e, nil)
	}
}
