package whole_test

import (
	"testing"

	"surd/api"
	"surd/div"
	"surd/nat"
	"surd/whole"
)

func wantJacobi(t *testing.T, a, n api.Whole, want int) {
	t.Helper()
	if got, e := whole.Jacobi(a, n); got != want || e != api.OK {
		t.Errorf("Jacobi of %v over %v: %d, error %d, not %d", short(a), short(n), got, e, want)
	}
}

// modelJacobi is the product over n's primes, each by counting squares out.
func modelJacobi(a, n int) int {
	out := 1
	for p := 2; n > 1; p++ {
		for n%p == 0 {
			n /= p
			out *= modelSymbol(a, p)
		}
	}
	return out
}

// modelSymbol is the symbol over a prime.
func modelSymbol(a, p int) int {
	if a%p == 0 {
		return 0
	}
	for x := range p {
		if (x*x-a)%p == 0 {
			return 1
		}
	}
	return -1
}

// P6.17: all small numbers, counted out.
func TestJacobiOfInts(t *testing.T) {
	for n := 1; n < 130; n += 2 {
		for a := -140; a <= 140; a++ {
			wantJacobi(t, of(a), of(n), modelJacobi(a, n))
		}
	}
}

// P6.17: n that is even, or not above 0.
func TestJacobiOverWrong(t *testing.T) {
	wrong := list(0, 2, 4, 100, -1, -3, -2, 1<<62)
	wrong = append(wrong, below(nil), above(api.Nat{0, 0}), above(api.Nat{0, 1}), below(api.Nat{1, 1}), below(ones(200)), above(power(api.MaxBits)), below(ones(api.MaxBits+1)))
	for _, n := range wrong {
		for _, a := range []api.Whole{of(0), of(1), of(-1), of(5), above(power(api.MaxBits))} {
			if s, e := whole.Jacobi(a, n); s != 0 || e != api.ErrArg {
				t.Errorf("Jacobi over %v: %d, error %d", short(n), s, e)
			}
		}
	}
}

// odds are odd numbers above 0.
func odds() []api.Whole {
	var out []api.Whole
	for _, size := range sizes() {
		if len(size) > 0 && size[0]%2 == 1 {
			out = append(out, above(size))
		}
	}
	m := mix(7)
	for i := range 20 {
		size := m.runs(1 + i%9)
		size[0] |= 1
		out = append(out, above(size))
	}
	return out
}

// P6.17, P6.18: 0 just if there is a common divisor; a product's symbol is the
// product of both; it hangs on a's rest alone; a square's is 1.
func TestLawsOfSymbols(t *testing.T) {
	some := samples()
	for i, n := range odds() {
		for j, a := range some {
			s, _ := whole.Jacobi(a, n)
			alone := nat.Compare(div.Gcd(a.Abs, n.Abs), api.Nat{1}) == 0
			if s*s > 1 || alone != (s != 0) {
				t.Fatalf("Jacobi of %v over %v: %d", short(a), short(n), s)
			}
			b := some[(3*i+5*j)%len(some)]
			other, _ := whole.Jacobi(b, n)
			wantJacobi(t, must(t)(whole.Mul(a, b)), n, s*other)
			wantJacobi(t, must(t)(whole.Add(a, must(t)(whole.Mul(b, n)))), n, s)
			wantJacobi(t, must(t)(whole.Mul(a, a)), n, s*s)
		}
	}
}

// P6.17: over a product it is the product, too, and over primes it is what
// Euler's power says.
func TestJacobiOverProducts(t *testing.T) {
	all := odds()
	for i, n := range all {
		for j, k := range all {
			a := samples()[(7*i+2*j)%len(samples())]
			x, _ := whole.Jacobi(a, n)
			y, _ := whole.Jacobi(a, k)
			wantJacobi(t, a, must(t)(whole.Mul(n, k)), x*y)
		}
	}
}

// P6.17: over great primes, 2^n - 1, it is the power to half of the prime less
// 1, which leaves 0, 1 or -1.
func TestJacobiOverPrimes(t *testing.T) {
	m := mix(8)
	for _, n := range []int{61, 89, 107, 127, 521, 607} {
		p := above(ones(n))
		for i := range 40 {
			a := api.Whole{Neg: i%2 > 0, Abs: m.nat(1 + i%12)}
			if i < 6 {
				a = of(i - 2)
			}
			x := must(t)(whole.PowMod(a, ones(n-1), p))
			want := 1
			switch {
			case isZero(x):
				want = 0
			case len(x.Abs) > 1 || x.Abs[0] != 1:
				want = -1
			}
			wantJacobi(t, a, p, want)
		}
	}
}

// P6.17: the rules of reciprocity, of -1 and of 2, for great numbers: each
// quotient at its own length.
func TestRulesOfSymbols(t *testing.T) {
	all := odds()
	m := mix(9)
	for range 10 {
		all = append(all, above(m.full(30+m.below(5))))
	}
	turn := func(so bool) int {
		if so {
			return -1
		}
		return 1
	}
	for _, n := range all {
		low := n.Abs[0]
		wantJacobi(t, of(-1), n, turn(low%4 == 3))
		wantJacobi(t, of(2), n, turn(low%8 == 3 || low%8 == 5))
		for _, k := range all {
			s, _ := whole.Jacobi(n, k)
			wantJacobi(t, k, n, s*turn(low%4 == 3 && k.Abs[0]%4 == 3))
		}
	}
}

// P6.17: it answers no number, so that none is too great; and it ends soon.
func TestGreatSymbols(t *testing.T) {
	m := mix(10)
	n, k := m.full(3000), m.full(3100)
	s, e := whole.Jacobi(above(n), above(k))
	if e != api.OK {
		t.Fatalf("error %d", e)
	}
	if n[0]%4 == 3 && k[0]%4 == 3 {
		s = -s
	}
	wantJacobi(t, above(k), above(n), s)
	far := above(ones(api.MaxBits + 7))
	wantJacobi(t, of(-1), far, -1)
	wantJacobi(t, of(2), far, 1)
	wantJacobi(t, far, far, 0)
	wantJacobi(t, of(0), far, 0)
	wantJacobi(t, far, of(1), 1)
	wantJacobi(t, below(power(api.MaxBits+7)), of(3), modelJacobi(-2, 3))
	// It leaves 7 by 8, and so does far; both are prime to each other.
	wantJacobi(t, above(ones(api.MaxBits+8)), far, 1)
}
