package div_test

import (
	"testing"

	"surd/api"
	"surd/div"
	"surd/mul"
	"surd/nat"
)

// The chapter's example 4.
func TestExamplesOfPowers(t *testing.T) {
	p, e := div.Power(api.Nat{3}, api.Nat{200}, api.Nat{13})
	wantOK(t, "Power(3, 200, 13)", p, e, api.Nat{9})
	p, e = div.Power(nil, nil, api.Nat{7})
	wantOK(t, "Power(0, 0, 7)", p, e, api.Nat{1})
	p, e = div.Power(api.Nat{5}, api.Nat{3}, api.Nat{1})
	wantOK(t, "Power(5, 3, 1)", p, e, nil)
	wantSplit(t, api.Nat{48}, api.Nat{2}, 4, api.Nat{3})
	wantNoSplit(t, nil, api.Nat{2})
	wantNoSplit(t, api.Nat{5}, api.Nat{1})
}

// wantSplit asks for that power and that number.
func wantSplit(t *testing.T, a, b api.Nat, power int, rest api.Nat) {
	t.Helper()
	k, c, e := div.Split(a, b)
	if k != power {
		t.Errorf("Split of %v by %v: %d, not %d", short(a), short(b), k, power)
	}
	wantOK(t, "Split", c, e, rest)
}

// wantNoSplit asks for ErrArg, and for nothing beside it.
func wantNoSplit(t *testing.T, a, b api.Nat) {
	t.Helper()
	k, c, e := div.Split(a, b)
	wantErr(t, "Split", e, api.ErrArg, c)
	if k != 0 {
		t.Errorf("Split: %d beside an error", k)
	}
}

// P3.3: Power is a product of e factors, its rest.
func TestPower(t *testing.T) {
	for _, a := range samples() {
		for i, m := range samples() {
			if isZero(m) || i%3 > 0 {
				continue
			}
			_, want := modelBoth(api.Nat{1}, m)
			for n := range uint64(9) {
				p, e := div.Power(a, api.Nat{n, 0}, m)
				wantOK(t, "Power", p, e, want)
				_, want = modelBoth(times(t, want, a), m)
			}
		}
	}
}

// P3.3: modulo 0, in every shape, whatever else is handed in.
func TestPowerModuloZero(t *testing.T) {
	for _, zero := range []api.Nat{nil, {}, {0}, {0, 0}} {
		for _, a := range append(samples(), ones(api.MaxBits+1)) {
			p, e := div.Power(a, a, zero)
			wantErr(t, "Power modulo 0", e, api.ErrDivZero, p)
			p, e = div.Power(a, nil, zero)
			wantErr(t, "Power to the 0 modulo 0", e, api.ErrDivZero, p)
		}
	}
}

// P3.3: the power of 0, and modulo 1.
func TestPowersAtTheirEnds(t *testing.T) {
	for _, a := range samples() {
		p, e := div.Power(a, api.Nat{0, 0}, api.Nat{0, 5})
		wantOK(t, "a to the 0", p, e, api.Nat{1})
		p, e = div.Power(a, nil, api.Nat{2})
		wantOK(t, "a to the 0 modulo 2", p, e, api.Nat{1})
		p, e = div.Power(a, nil, api.Nat{1, 0})
		wantOK(t, "a to the 0 modulo 1", p, e, nil)
		p, e = div.Power(a, a, api.Nat{1})
		wantOK(t, "a to the a modulo 1", p, e, nil)
		if !isZero(a) {
			p, e = div.Power(api.Nat{0}, a, api.Nat{3, 3})
			wantOK(t, "0 to the a", p, e, nil)
			p, e = div.Power(a, api.Nat{7}, a)
			wantOK(t, "a to the 7 modulo a", p, e, nil)
		}
	}
}

// P3.5: Power(a, e + f, m) is Power(a, e, m) Power(a, f, m) modulo m.
func TestLawOfPowers(t *testing.T) {
	m := mix(8)
	for range 300 {
		a, e, f, mod := m.nat(m.below(5)), m.nat(m.below(4)), m.nat(m.below(4)), m.nat(1+m.below(5))
		if isZero(mod) {
			continue
		}
		pe, pf := must(t)(div.Power(a, e, mod)), must(t)(div.Power(a, f, mod))
		p, err := div.Power(a, plus(t, e, f), mod)
		wantOK(t, "a to the e + f", p, err, must(t)(div.Rest(times(t, pe, pf), mod)))
	}
}

// P3.3: modulo a prime p the power of p - 1 is 1; so exponents count modulo
// p - 1. It takes time by the length of e.
func TestGreatExponents(t *testing.T) {
	m := mix(9)
	for _, n := range []int{13, 61, 127, 521, 4423} {
		prime := ones(n)
		less := must(t)(nat.Sub(prime, api.Nat{1}))
		a := must(t)(div.Rest(m.full(80), prime))
		p, e := div.Power(a, less, prime)
		wantOK(t, "a to the p - 1", p, e, api.Nat{1})
		p, e = div.Power(a, prime, prime)
		wantOK(t, "a to the p", p, e, a)
		long := m.full(max(1, 100000/n/n))
		p, e = div.Power(a, long, prime)
		wantOK(t, "a to a great power", p, e, must(t)(div.Power(a, must(t)(div.Rest(long, less)), prime)))
	}
	// 3^(2^n) is 1 modulo 2^(n + 2).
	p, e := div.Power(api.Nat{3}, power(1<<20), power(1<<10))
	wantOK(t, "3 to the 2^(2^20)", p, e, api.Nat{1})
	p, e = div.Power(api.Nat{2}, ones(1<<22), api.Nat{3})
	wantOK(t, "2 to an odd great power", p, e, api.Nat{2})
}

// P3.3, R6: ErrBig is asked of what is answered, not of what is on the way.
func TestPowersAtTheLimit(t *testing.T) {
	over := power(api.MaxBits + 5)
	p, e := div.Power(api.Nat{2}, api.Nat{5}, over)
	wantOK(t, "2^5", p, e, api.Nat{32})
	p, e = div.Power(over, nil, over)
	wantOK(t, "over to the 0", p, e, api.Nat{1})
	p, e = div.Power(ones(api.MaxBits+9), api.Nat{1}, api.Nat{8})
	wantOK(t, "an odd one modulo 8", p, e, api.Nat{7})
	p, e = div.Power(api.Nat{2}, api.Nat{api.MaxBits - 1}, over)
	wantOK(t, "2^(MaxBits - 1)", p, e, power(api.MaxBits-1))
	p, e = div.Power(api.Nat{2}, api.Nat{api.MaxBits}, over)
	wantErr(t, "2^MaxBits", e, api.ErrBig, p)
	p, e = div.Power(over, api.Nat{1}, ones(api.MaxBits+9))
	wantErr(t, "over to the 1", e, api.ErrBig, p)

	// With K = MaxBits - 20: the square of 5 2^K + 1 is 25 2^(2K) + 10 2^K + 1,
	// of which the first part leaves 2^(K + 10), modulo 3 times that.
	const k = api.MaxBits - 20
	a := plus(t, must(t)(nat.Left(api.Nat{5}, k)), api.Nat{1})
	want := plus(t, must(t)(nat.Left(api.Nat{1024 + 10}, k)), api.Nat{1})
	p, e = div.Power(a, api.Nat{2}, must(t)(nat.Left(api.Nat{3 << 10}, k)))
	wantOK(t, "a square beyond MaxBits on the way", p, e, want)
}

// P3.3, P3.6: Split's number times b^k is a, and b does not divide it.
func TestSplit(t *testing.T) {
	for _, a := range samples() {
		for _, b := range samples() {
			if isZero(a) || nat.Compare(b, api.Nat{1}) <= 0 {
				wantNoSplit(t, a, b)
				continue
			}
			k, c, e := div.Split(a, b)
			wantOK(t, "c b^k", times(t, c, must(t)(mul.Pow(b, k))), e, a)
			if _, r := modelBoth(c, b); isZero(r) {
				t.Errorf("Split(%v, %v): %d, %v", a, b, k, c)
			}
		}
	}
}

// P3.3: numbers that may not be are refused before all else.
func TestSplitsThatMayNotBe(t *testing.T) {
	over := ones(api.MaxBits + 1)
	for _, zero := range []api.Nat{nil, {}, {0}, {0, 0}} {
		for _, x := range []api.Nat{nil, {1}, {2}, {0, 1}, over} {
			wantNoSplit(t, zero, x)
			wantNoSplit(t, x, zero)
		}
	}
	wantNoSplit(t, over, api.Nat{1, 0})
}

// P3.3: every power of every small number.
func TestSplitOfPowers(t *testing.T) {
	for b := uint64(2); b < 40; b++ {
		for k := range 40 {
			p := must(t)(mul.Pow(api.Nat{b}, k))
			wantSplit(t, p, api.Nat{b}, k, api.Nat{1})
			// 41 and 2^64 + 13 have no divisor in common with b.
			wantSplit(t, times(t, p, api.Nat{41}), api.Nat{b, 0}, k, api.Nat{41})
			wantSplit(t, times(t, p, api.Nat{13, 1}), api.Nat{b}, k, api.Nat{13, 1})
		}
	}
	// Further divisors of b, but not b itself, are left over.
	a := times(t, must(t)(mul.Pow(api.Nat{12}, 5)), api.Nat{128})
	wantSplit(t, a, api.Nat{12}, 5, api.Nat{128})
	wantSplit(t, api.Nat{128}, api.Nat{8}, 2, api.Nat{2})
}

// P3.3: high powers end soon.
func TestGreatSplit(t *testing.T) {
	const k = 100000
	wantSplit(t, times(t, must(t)(mul.Pow(api.Nat{3}, k)), api.Nat{10}), api.Nat{3}, k, api.Nat{10})
	wantSplit(t, times(t, must(t)(mul.Pow(api.Nat{10}, k)), api.Nat{7}), api.Nat{10}, k, api.Nat{7})
	wantSplit(t, power(1<<20), api.Nat{2}, 1<<20, api.Nat{1})
	wantSplit(t, power(1<<20-1), power(64), 1<<14-1, power(63))
	wantSplit(t, ones(1<<20), ones(1<<19), 1, plus(t, power(1<<19), api.Nat{1}))
}

// P3.3, R6: ErrBig is asked of the number that is answered alone.
func TestSplitAtTheLimit(t *testing.T) {
	full, over := ones(api.MaxBits), power(api.MaxBits)
	wantSplit(t, full, api.Nat{2}, 0, full)
	wantSplit(t, over, power(api.MaxBits-1), 1, api.Nat{2})
	wantSplit(t, over, over, 1, api.Nat{1})
	wantSplit(t, longer(full, 10), power(640), 1, full)
	k, c, e := div.Split(over, ones(3))
	wantErr(t, "Split(over, 7)", e, api.ErrBig, c)
	if k != 0 {
		t.Errorf("Split: %d beside an error", k)
	}
	k, c, e = div.Split(longer(ones(api.MaxBits+1), 10), power(640))
	wantErr(t, "Split(2^640 over, 2^640)", e, api.ErrBig, c)
	if k != 0 {
		t.Errorf("Split: %d beside an error", k)
	}
}
