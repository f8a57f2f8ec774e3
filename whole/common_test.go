package whole_test

import (
	"testing"

	"surd/api"
	"surd/div"
	"surd/mul"
	"surd/nat"
	"surd/whole"
)

// wantBezout asks for the three that there is but one of: g by div's Gcd, x
// from 0 on and less than b through g, and y by the equation.
func wantBezout(t *testing.T, a, b api.Whole) {
	t.Helper()
	g, x, y, e := whole.Bezout(a, b)
	wantOK(t, "Bezout's g", g, e, above(div.Gcd(a.Abs, b.Abs)))
	wantNormal(t, "Bezout's x", x)
	wantNormal(t, "Bezout's y", y)
	ax, by := must(t)(whole.Mul(a, x)), must(t)(whole.Mul(b, y))
	wantWhole(t, "a x + b y", must(t)(whole.Add(ax, by)), g)
	if isZero(b) {
		wantWhole(t, "x beside b = 0", x, of(whole.Sign(a)))
		wantWhole(t, "y beside b = 0", y, of(0))
		return
	}
	if x.Neg || nat.Compare(must(t)(whole.Mul(x, g)).Abs, b.Abs) >= 0 {
		t.Errorf("Bezout of %v and %v: x is %v", short(a), short(b), short(x))
	}
}

// wantInverse asks for an inverse just if there is one.
func wantInverse(t *testing.T, a, m api.Whole) {
	t.Helper()
	x, e := whole.Inverse(a, m)
	if nat.Compare(div.Gcd(a.Abs, m.Abs), api.Nat{1}) > 0 {
		wantErr(t, "Inverse", e, api.ErrWholeInverse, x)
		return
	}
	if e != api.OK || x.Neg || nat.Compare(x.Abs, m.Abs) >= 0 {
		t.Errorf("Inverse of %v by %v: %v, error %d", short(a), short(m), short(x), e)
		return
	}
	wantNormal(t, "Inverse", x)
	left := must(t)(whole.Sub(must(t)(whole.Mul(a, x)), of(1)))
	if !div.Divides(left.Abs, m.Abs) {
		t.Errorf("Inverse of %v by %v: %v", short(a), short(m), short(x))
	}
}

// The chapter's example 2.
func TestExamplesOfBezout(t *testing.T) {
	for _, c := range []struct{ a, b, g, x, y int }{
		{12, 18, 6, 2, -1}, {5, 0, 5, 1, 0}, {0, 0, 0, 0, 0}, {4, -2, 2, 0, -1},
		{-5, 0, 5, -1, 0}, {0, 7, 7, 0, 1}, {0, -7, 7, 0, -1}, {-1, 1, 1, 0, 1}, {3, 2, 1, 1, -1}, {-3, 2, 1, 1, 2},
	} {
		g, x, y, e := whole.Bezout(of(c.a), of(c.b))
		wantOK(t, "Bezout's g", g, e, of(c.g))
		wantOK(t, "Bezout's x", x, e, of(c.x))
		wantOK(t, "Bezout's y", y, e, of(c.y))
	}
	x, e := whole.Inverse(of(3), of(7))
	wantOK(t, "Inverse(3, 7)", x, e, of(5))
	x, e = whole.Inverse(of(2), of(4))
	wantErr(t, "Inverse(2, 4)", e, api.ErrWholeInverse, x)
	x, e = whole.Inverse(of(0), of(1))
	wantOK(t, "Inverse(0, 1)", x, e, of(0))
}

// P6.6, P6.12: all small numbers, x counted out.
func TestBezoutOfInts(t *testing.T) {
	for a := -40; a <= 40; a++ {
		for b := -40; b <= 40; b++ {
			wantBezout(t, of(a), of(b))
			g, x, _, _ := whole.Bezout(of(a), of(b))
			if b == 0 {
				continue
			}
			divisor, _ := whole.Int(g)
			least := 0
			for (a*least-divisor)%b != 0 {
				least++
			}
			wantWhole(t, "Bezout's x", x, of(least))
		}
	}
}

// P6.6, P6.13: inverses of all small numbers, counted out.
func TestInverseOfInts(t *testing.T) {
	for a := -30; a <= 30; a++ {
		for m := 1; m <= 40; m++ {
			want := -1
			for x := m - 1; x >= 0; x-- {
				if (a*x-1)%m == 0 {
					want = x
				}
			}
			for _, by := range []int{m, -m} {
				x, e := whole.Inverse(of(a), of(by))
				if want < 0 {
					wantErr(t, "Inverse", e, api.ErrWholeInverse, x)
				} else {
					wantOK(t, "Inverse", x, e, of(want))
				}
			}
		}
	}
}

// P6.6, P6.12, P6.13: all pairs.
func TestBezout(t *testing.T) {
	for _, a := range samples() {
		for _, b := range samples() {
			wantBezout(t, a, b)
			if !isZero(b) {
				wantInverse(t, a, b)
			}
		}
	}
}

// P6.6: numbers of all lengths, with a divisor in common, near to each other
// and far apart.
func TestBezoutOfAllLengths(t *testing.T) {
	m := mix(3)
	for x := range 12 {
		for y := range 12 {
			for i, g := range []api.Nat{{1}, m.nat(1), m.runs(3), m.full(y)} {
				a := must(t)(whole.Mul(above(m.runs(x)), above(g)))
				b := must(t)(whole.Mul(above(m.full(y)), above(g)))
				a.Neg, b.Neg = i%2 > 0 && len(a.Abs) > 0, i > 1 && len(b.Abs) > 0
				wantBezout(t, a, b)
				wantBezout(t, must(t)(whole.Add(a, above(g))), a)
				if !isZero(b) {
					wantInverse(t, a, b)
				}
			}
		}
	}
}

// P6.6: quotients at all lengths, one behind the other: a and b by their
// continued fraction, from its end.
func TestBezoutByQuotients(t *testing.T) {
	m := mix(4)
	for i := range 300 {
		a, b := of(1), of(0)
		for range 1 + m.below(30) {
			q := api.Nat{1 + m.next()>>(m.below(63)+1)}
			if m.below(6) == 0 {
				q = m.nat(1 + m.below(4))
				q[len(q)-1] |= 1
			}
			a, b = must(t)(whole.Add(must(t)(whole.Mul(above(q), a)), b)), a
		}
		a.Neg, b.Neg = i%3 == 0, i%5 == 0 && len(b.Abs) > 0
		wantBezout(t, a, b)
		wantBezout(t, b, a)
		wantInverse(t, b, a)
	}
}

// P6.6: Fibonacci's numbers take the most steps, and 2^n - 1 the longest ones.
func TestBezoutByIndex(t *testing.T) {
	for _, c := range [][2]int{{90, 91}, {92, 93}, {93, 94}, {94, 93}, {186, 187}, {300, 180}, {1000, 999}, {9973, 9972}, {20000, 14000}} {
		m, _ := mul.Fibonacci(c[0])
		n, _ := mul.Fibonacci(c[1])
		wantBezout(t, above(m), below(n))
		wantBezout(t, below(ones(c[0])), above(ones(c[1])))
	}
}

// P6.6: by 0 there is no inverse.
func TestInverseByZero(t *testing.T) {
	for _, zero := range []api.Whole{{}, below(nil), above(api.Nat{0, 0})} {
		for _, a := range []api.Whole{of(0), of(1), of(-1), of(6), above(power(api.MaxBits))} {
			x, e := whole.Inverse(a, zero)
			wantErr(t, "Inverse by 0", e, api.ErrDivZero, x)
		}
	}
}

// P6.6: great numbers end soon.
func TestGreatBezout(t *testing.T) {
	m := mix(5)
	g := m.full(500)
	a, b := must(t)(whole.Mul(above(g), above(m.full(1500)))), must(t)(whole.Mul(above(g), below(m.full(1700))))
	wantBezout(t, a, b)
	wantInverse(t, below(m.full(2000)), above(power(1<<17)))
	wantInverse(t, of(3), above(power(1<<22)))
}

// P6.6, R6: ErrBig, if one of the answers is too great, and else none.
func TestBezoutAtTheLimit(t *testing.T) {
	const n = api.MaxBits
	over, full, next := power(n), ones(n), power(n)
	next[0] = 1
	third, _ := div.Quo(full, api.Nat{3})
	for _, c := range []struct {
		name    string
		a, b    api.Whole
		g, x, y api.Whole
	}{
		{"-full, 0", below(full), of(0), above(full), of(-1), of(0)},
		{"0, -full", of(0), below(full), above(full), of(0), of(-1)},
		{"over, -1", above(over), of(-1), of(1), of(0), of(-1)},
		{"1, over", of(1), above(over), of(1), of(1), of(0)},
		{"next, over", above(next), above(over), of(1), of(1), of(-1)},
		{"-over, next", below(over), above(next), of(1), of(1), of(1)},
		{"full, next", above(full), above(next), of(1), above(power(n - 1)), below(ones(n - 1))},
		{"over, 3", above(over), of(3), of(1), of(1), below(third)},
	} {
		g, x, y, e := whole.Bezout(c.a, c.b)
		wantOK(t, "g of "+c.name, g, e, c.g)
		wantOK(t, "x of "+c.name, x, e, c.x)
		wantOK(t, "y of "+c.name, y, e, c.y)
	}
	for _, c := range []struct {
		name string
		a, b api.Whole
	}{
		{"g: over, 0", below(over), of(0)}, {"g: 0, over", of(0), above(over)}, {"g: over, over", above(over), below(over)},
		{"x: over, next", above(over), above(next)}, {"y: 2^(n + 1), 3", above(power(n + 1)), of(3)}, {"y: -2^(n + 2), 3", below(power(n + 2)), of(3)},
	} {
		g, x, y, e := whole.Bezout(c.a, c.b)
		wantErr(t, "Bezout, "+c.name, e, api.ErrBig, g, x, y)
	}
}

// P6.6, R6: the same of Inverse; that there is none is told ahead.
func TestInverseAtTheLimit(t *testing.T) {
	const n = api.MaxBits
	over, full, next := power(n), ones(n), power(n)
	next[0] = 1
	for _, c := range []struct {
		name       string
		a, m, want api.Whole
	}{
		{"1, over", of(1), below(over), of(1)}, {"next, over", above(next), above(over), of(1)}, {"-over, next", below(over), above(next), of(1)},
		{"full, next", above(full), above(next), above(power(n - 1))}, {"over, 1", below(over), of(-1), of(0)},
		{"-1, over", of(-1), above(over), above(full)},
	} {
		x, e := whole.Inverse(c.a, c.m)
		wantOK(t, "Inverse of "+c.name, x, e, c.want)
	}
	x, e := whole.Inverse(above(over), above(next))
	wantErr(t, "Inverse of over, next", e, api.ErrBig, x)
	x, e = whole.Inverse(of(-1), below(next))
	wantErr(t, "Inverse of -1, next", e, api.ErrBig, x)
	x, e = whole.Inverse(of(2), above(over))
	wantErr(t, "Inverse of 2, over", e, api.ErrWholeInverse, x)
	x, e = whole.Inverse(of(0), above(next))
	wantErr(t, "Inverse of 0, next", e, api.ErrWholeInverse, x)
	x, e = whole.Inverse(above(next), below(next))
	wantErr(t, "Inverse of next, next", e, api.ErrWholeInverse, x)
}
