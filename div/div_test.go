package div_test

import (
	"slices"
	"testing"

	"surd/api"
	"surd/div"
	"surd/nat"
)

// wantBoth asks for that quotient and that rest, from all calls that tell one
// of them, or whether the rest is 0. b is above 0.
func wantBoth(t *testing.T, a, b, q, r api.Nat) {
	t.Helper()
	gotQ, gotR, e := div.Both(a, b)
	wantOK(t, "Both's quotient", gotQ, e, q)
	wantOK(t, "Both's rest", gotR, e, r)
	got, e := div.Quo(a, b)
	wantOK(t, "Quo", got, e, q)
	got, e = div.Rest(a, b)
	wantOK(t, "Rest", got, e, r)
	if div.Divides(a, b) != isZero(r) {
		t.Errorf("Divides(%v, %v): %v", short(a), short(b), !isZero(r))
	}
}

// wantDivided asks for the pair that there is but one of: q b + r is a, and r
// is less than b. b is above 0.
func wantDivided(t *testing.T, a, b api.Nat) {
	t.Helper()
	q, r, e := div.Both(a, b)
	if e != api.OK || nat.Compare(r, b) >= 0 {
		t.Errorf("Both of %d and %d limbs: a rest of %d, error %d", len(a), len(b), len(r), e)
		return
	}
	wantNat(t, "q b + r", plus(t, times(t, q, b), r), a)
	wantBoth(t, a, b, q, r)
}

// The chapter's examples 1 and 2.
func TestExamplesOfBoth(t *testing.T) {
	const top = ^uint64(0)
	wantBoth(t, api.Nat{100}, api.Nat{7}, api.Nat{14}, api.Nat{2})
	wantBoth(t, api.Nat{7}, api.Nat{100}, nil, api.Nat{7})
	wantBoth(t, api.Nat{0, 0, 1}, api.Nat{top}, api.Nat{1, 1}, api.Nat{1})
	q, r, e := div.Both(api.Nat{1}, nil)
	wantErr(t, "Both(1, 0)", e, api.ErrDivZero, q, r)
	for _, c := range []struct {
		a, b uint64
		want bool
	}{{12, 4, true}, {12, 5, false}, {0, 0, true}, {1, 0, false}, {0, 5, true}} {
		if div.Divides(api.Nat{c.a}, api.Nat{c.b}) != c.want {
			t.Errorf("Divides(%d, %d): %v", c.a, c.b, !c.want)
		}
	}
}

// P3.1: Both, Quo, Rest and Divides, of all pairs.
func TestBoth(t *testing.T) {
	for _, a := range samples() {
		for _, b := range samples() {
			if !isZero(b) {
				q, r := modelBoth(a, b)
				wantBoth(t, a, b, q, r)
			}
		}
	}
}

// P3.1: by 0, in every shape, whatever a is. Divides is told then just of 0.
func TestByZero(t *testing.T) {
	for _, zero := range []api.Nat{nil, {}, {0}, {0, 0, 0}} {
		for _, a := range append(samples(), ones(api.MaxBits+1)) {
			q, r, e := div.Both(a, zero)
			wantErr(t, "Both by 0", e, api.ErrDivZero, q, r)
			q, e = div.Quo(a, zero)
			wantErr(t, "Quo by 0", e, api.ErrDivZero, q)
			r, e = div.Rest(a, zero)
			wantErr(t, "Rest by 0", e, api.ErrDivZero, r)
			if div.Divides(a, zero) != isZero(a) {
				t.Errorf("Divides(%v, 0): %v", short(a), !isZero(a))
			}
		}
	}
}

// P3.1: guesses that are too great by one behind the second limb, and such
// that would not fit into a limb.
func TestGuesses(t *testing.T) {
	const top, half = ^uint64(0), 1 << 63
	for _, c := range [][2]api.Nat{
		{{0, 0, half, half - 1}, {1, 0, half}},
		{{3, 0, half}, {1, 0, half >> 2}},
		{{0, 0, top - 1, half}, {top, half}},
		{{0, top - 1, half}, {top, half}},
		{{0, 0, 0, top, top - 1}, {0, top, top}},
		{{top, top, top - 1, half}, {top, top, half}},
		{{0, 0, half}, {1, half}},
		{{0, top, top - 1}, {top, top}},
	} {
		q, r := modelBoth(c[0], c[1])
		wantBoth(t, c[0], c[1], q, r)
	}
}

// P3.1, P3.4: of what was built as q b + r just q and r, the rest at its ends
// too.
func TestBuilt(t *testing.T) {
	some := samples()
	for i, b := range some {
		if isZero(b) {
			continue
		}
		highest := must(t)(nat.Sub(b, api.Nat{1}))
		_, drawn := modelBoth(some[(5*i+2)%len(some)], b)
		for _, q := range some {
			for _, r := range []api.Nat{nil, highest, drawn} {
				wantBoth(t, plus(t, times(t, q, b), r), b, q, r)
			}
		}
	}
}

// P3.1, P3.4: every pair of lengths up to some, of runs of limbs, so that
// carries run far.
func TestAllLengths(t *testing.T) {
	m := mix(2)
	for x := range 40 {
		for y := range 20 {
			for range 4 {
				a, b := m.runs(x), m.runs(y)
				if !isZero(b) {
					wantDivided(t, a, b)
				}
			}
		}
	}
}

// P3.1, P3.4: lengths about those at which another way is taken, the quotient
// being shorter and longer than the divisor.
func TestLongNumbers(t *testing.T) {
	m := mix(3)
	lengths := []int{1, 2, 29, 30, 31, 59, 60, 61, 62, 63, 90, 119, 120, 121, 179, 240, 241, 500, 777}
	for _, x := range lengths {
		for _, y := range lengths {
			for _, b := range []api.Nat{m.full(x), m.runs(x), longer(ones(64), x-1), ones(64 * x), power(64*x - 1)} {
				if isZero(b) {
					continue
				}
				q, r := m.runs(y), must(t)(nat.Sub(b, api.Nat{1}))
				wantBoth(t, times(t, b, q), b, q, nil)
				wantBoth(t, plus(t, times(t, b, q), r), b, q, r)
			}
			wantDivided(t, m.runs(x+y), m.full(y))
			wantDivided(t, m.runs(x+y), append(m.runs(y), m.next()|1))
		}
	}
}

// P3.1: quotients of long numbers whose highest limbs are the divisor's own.
func TestLongGuesses(t *testing.T) {
	m := mix(4)
	for _, n := range []int{60, 61, 64, 120, 121, 128, 250, 333} {
		for range 5 {
			b := m.runs(n)
			b[n-1] |= 1 << 63
			low := m.runs(n)
			for cut := range 4 {
				// a's highest limbs are b's, and those below are not greater.
				a := slices.Concat(low, make(api.Nat, cut*n/5), b[cut*n/5:])
				wantDivided(t, must(t)(nat.Sub(a, api.Nat{1})), b)
				wantDivided(t, a, b)
			}
			wantDivided(t, ones(64*2*n), b)
			wantDivided(t, ones(64*2*n), append(make(api.Nat, n-1), 1<<63))
			wantDivided(t, power(64*3*n), ones(64*n))
		}
	}
}

// P3.1: great numbers end soon.
func TestGreatNumbers(t *testing.T) {
	m := mix(5)
	b, q := m.full(1<<12), m.full(1<<13)
	wantBoth(t, plus(t, times(t, b, q), api.Nat{5}), b, q, api.Nat{5})
	// 2^(x k) - 1 through 2^x - 1 has a bit 1 at each multiple of x.
	const x, k = 64 * 5000, 30
	want := make(api.Nat, 5000*(k-1)+1)
	for i := range k {
		want[5000*i] = 1
	}
	wantBoth(t, ones(x*k), ones(x), want, nil)
	half := power(api.MaxBits / 2)
	wantBoth(t, power(api.MaxBits-1), half, power(api.MaxBits/2-1), nil)
	wantBoth(t, ones(api.MaxBits), half, ones(api.MaxBits/2), ones(api.MaxBits/2))
}

// P3.1, R6: ErrBig is asked of the answers, not of what is handed in.
func TestBothAtTheLimit(t *testing.T) {
	full, over, far := ones(api.MaxBits), power(api.MaxBits), ones(api.MaxBits+640)
	one, two := api.Nat{1, 0}, api.Nat{2}
	wantBoth(t, full, one, full, nil)
	wantBoth(t, over, two, power(api.MaxBits-1), nil)
	wantBoth(t, full, over, nil, full)
	wantBoth(t, far, power(640), full, ones(640))
	wantBoth(t, far, far, one, nil)
	wantBoth(t, longer(far, 3), longer(far, 2), power(64), nil)

	for _, c := range []struct {
		name string
		a, b api.Nat
	}{{"over, 1", over, one}, {"far, 1", far, one}, {"far, 2^639", far, power(639)}} {
		q, r, e := div.Both(c.a, c.b)
		wantErr(t, "Both of "+c.name, e, api.ErrBig, q, r)
		q, e = div.Quo(c.a, c.b)
		wantErr(t, "Quo of "+c.name, e, api.ErrBig, q)
		r, e = div.Rest(c.a, c.b)
		wantOK(t, "Rest of "+c.name, r, e, must(t)(nat.Low(c.a, nat.Length(c.b)-1)))
	}

	// A rest that is too great, beside a quotient that is not.
	q, r, e := div.Both(over, far)
	wantErr(t, "Both of over, far", e, api.ErrBig, q, r)
	q, e = div.Quo(over, far)
	wantOK(t, "Quo of over, far", q, e, nil)
	r, e = div.Rest(over, far)
	wantErr(t, "Rest of over, far", e, api.ErrBig, r)
	q, e = div.Quo(far, power(api.MaxBits+630))
	wantOK(t, "Quo of far, 2^630 over", q, e, ones(10))
	r, e = div.Rest(far, power(api.MaxBits+630))
	wantErr(t, "Rest of far, 2^630 over", e, api.ErrBig, r)
	if div.Divides(over, far) || !div.Divides(far, far) || !div.Divides(far, one) || div.Divides(far, two) {
		t.Error("Divides of great numbers")
	}
}

// P3.1: divisors of more bits than mul would answer.
func TestDivisorsBeyondTheLimit(t *testing.T) {
	const n = api.MaxBits/64 + 100
	b := ones(64 * n)
	// (2^x - 1)(2^y + 1) is 2^(x+y), and 2^x - 1 without its bit y.
	a := longer(api.Nat{1}, n+100)
	copy(a, ones(64 * n)[:n])
	a[100]--
	q, r, e := div.Both(a, b)
	wantOK(t, "(2^x - 1)(2^y + 1) through 2^x - 1", q, e, plus(t, power(6400), api.Nat{1}))
	wantOK(t, "the rest", r, e, nil)
	if !div.Divides(a, b) {
		t.Error("2^x - 1 does not divide its product")
	}
	a[0]++
	if div.Divides(a, b) {
		t.Error("2^x - 1 divides its product and 1")
	}
}
