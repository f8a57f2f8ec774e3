package whole_test

import (
	"testing"

	"surd/api"
	"surd/nat"
	"surd/whole"
)

// The chapter's example 4.
func TestExamplesOfPowMod(t *testing.T) {
	x, e := whole.PowMod(of(2), api.Nat{10}, of(-1000))
	wantOK(t, "PowMod(2, 10, -1000)", x, e, of(24))
	x, e = whole.PowMod(of(0), nil, of(1))
	wantOK(t, "PowMod(0, 0, 1)", x, e, of(0))
}

// P6.7: all small numbers, by products.
func TestPowModOfInts(t *testing.T) {
	for a := -12; a <= 12; a++ {
		for m := 1; m <= 20; m++ {
			want := 1 % m
			for n := range uint64(15) {
				for _, by := range []api.Whole{of(m), of(-m), above(api.Nat{uint64(m), 0})} {
					x, e := whole.PowMod(of(a), api.Nat{n, 0}, by)
					wantOK(t, "PowMod", x, e, of(want))
				}
				want = ((want*a)%m + m) % m
			}
		}
	}
}

// P6.7: the rest of the power, for all pairs.
func TestPowMod(t *testing.T) {
	some := samples()
	for _, a := range some {
		for _, m := range some {
			if isZero(m) {
				continue
			}
			for n := range 4 {
				_, want, e := whole.Euclid(must(t)(whole.Pow(a, n)), m)
				wantOK(t, "Euclid", want, e, want)
				x, e := whole.PowMod(a, nat.From(uint64(n)), m)
				wantOK(t, "PowMod", x, e, want)
			}
		}
	}
}

// P6.7: exponents add up, longer ones too.
func TestPowModByLongExponents(t *testing.T) {
	m := mix(6)
	for i := range 60 {
		a, by := below(m.nat(1+i%4)), api.Whole{Neg: i%2 > 0, Abs: m.full(1 + i%3)}
		n, k := above(m.nat(i%4)), above(m.nat(1))
		x := must(t)(whole.PowMod(a, n.Abs, by))
		y := must(t)(whole.PowMod(a, k.Abs, by))
		_, want, e := whole.Euclid(must(t)(whole.Mul(x, y)), by)
		wantOK(t, "Euclid", want, e, want)
		got, e := whole.PowMod(a, must(t)(whole.Add(n, k)).Abs, by)
		wantOK(t, "PowMod of n + k", got, e, want)
	}
}

// P6.7: by 0, whatever the others are.
func TestPowModByZero(t *testing.T) {
	for _, zero := range []api.Whole{{}, below(api.Nat{0}), above(api.Nat{0, 0})} {
		for _, a := range []api.Whole{of(0), of(1), of(-3), above(power(api.MaxBits))} {
			for _, n := range []api.Nat{nil, {0}, {1}, {0, 1}} {
				x, e := whole.PowMod(a, n, zero)
				wantErr(t, "PowMod by 0", e, api.ErrDivZero, x)
			}
		}
	}
}

// P6.7, R6: ErrBig is asked of the answer: a rest of few bits is told, though
// that of the size has too many.
func TestPowModAtTheLimit(t *testing.T) {
	over, next := power(api.MaxBits), power(api.MaxBits)
	next[0] = 1
	x, e := whole.PowMod(below(over), api.Nat{1}, above(next))
	wantOK(t, "-over by next", x, e, of(1))
	x, e = whole.PowMod(above(next), api.Nat{3, 0}, above(over))
	wantOK(t, "next^3 by over", x, e, of(1))
	x, e = whole.PowMod(of(-1), api.Nat{1}, above(over))
	wantOK(t, "-1 by over", x, e, above(ones(api.MaxBits)))
	x, e = whole.PowMod(of(-1), api.Nat{1}, above(next))
	wantErr(t, "-1 by next", e, api.ErrBig, x)
	x, e = whole.PowMod(above(over), api.Nat{1}, above(next))
	wantErr(t, "over by next", e, api.ErrBig, x)
	x, e = whole.PowMod(below(over), ones(1<<20), of(3))
	wantOK(t, "(-over)^n by 3", x, e, of(2))
}

// P6.15: Fermat's small theorem, for all primes up to 1000.
func TestFermat(t *testing.T) {
	some := samples()
	for p := 2; p <= 1000; p++ {
		if !isPrime(p) {
			continue
		}
		for _, a := range append(some, list(-1000, -p-1, -p, -1, 0, 1, 2, p-1, p, 1000)...) {
			_, want, e := whole.Euclid(a, of(p))
			wantOK(t, "Euclid", want, e, want)
			x, e := whole.PowMod(a, api.Nat{uint64(p)}, of(p))
			wantOK(t, "PowMod(a, p, p)", x, e, want)
		}
	}
}

// isPrime counts it out.
func isPrime(n int) bool {
	for d := 2; d*d <= n; d++ {
		if n%d == 0 {
			return false
		}
	}
	return n > 1
}
