package whole_test

import (
	"testing"

	"surd/api"
	"surd/nat"
	"surd/whole"
)

// division is one of the five, with what there is but one quotient to: whether
// a rest is the right one beside a quotient.
type division struct {
	name  string
	f     func(a, b api.Whole) (api.Whole, api.Whole, api.Errno)
	right func(c checked) bool
}

// checked is what a rest is looked at by: the signs of dividend, divisor and
// rest, how the rest's size compares with the divisor's, and how twice that
// does, and whether the quotient is even.
type checked struct {
	a, b, rest, size, twice int
	even                    bool
}

func divisions() []division {
	return []division{
		{"Quo", whole.Quo, func(c checked) bool { return c.rest*c.a >= 0 && c.size < 0 }},
		{"Floor", whole.Floor, func(c checked) bool { return c.rest*c.b >= 0 && c.size < 0 }},
		{"Ceil", whole.Ceil, func(c checked) bool { return c.rest*c.b <= 0 && c.size < 0 }},
		{"Near", whole.Near, func(c checked) bool { return c.twice < 0 || c.twice == 0 && c.even }},
		{"Euclid", whole.Euclid, func(c checked) bool { return c.rest >= 0 && c.size < 0 }},
	}
}

// wantDivided asks all five for the right quotient and rest.
func wantDivided(t *testing.T, a, b api.Whole) {
	t.Helper()
	for _, d := range divisions() {
		q, rest, e := d.f(a, b)
		if e != api.OK {
			t.Errorf("%s of %v and %v: error %d", d.name, short(a), short(b), e)
			continue
		}
		wantNormal(t, d.name, q)
		wantNormal(t, d.name+"'s rest", rest)
		back := must(t)(whole.Add(must(t)(whole.Mul(q, b)), rest))
		if whole.Compare(back, a) != 0 {
			t.Errorf("%s of %v and %v: %v and %v are not a", d.name, short(a), short(b), short(q), short(rest))
		}
		c := checked{
			a: whole.Sign(a), b: whole.Sign(b), rest: whole.Sign(rest),
			size: nat.Compare(rest.Abs, b.Abs), twice: nat.Compare(must(t)(whole.Add(rest, rest)).Abs, b.Abs),
			even: nat.Bit(q.Abs, 0) == 0,
		}
		if !d.right(c) {
			t.Errorf("%s of %v and %v: %v and %v", d.name, short(a), short(b), short(q), short(rest))
		}
	}
}

// The chapter's example 1.
func TestExamplesOfDivisions(t *testing.T) {
	five := divisions()
	const quo, floor, ceil, near, euclid = 0, 1, 2, 3, 4
	for _, c := range []struct{ way, a, b, q, rest int }{
		{quo, -7, 2, -3, -1}, {floor, -7, 2, -4, 1}, {ceil, -7, 2, -3, -1}, {near, -7, 2, -4, 1},
		{euclid, -7, -2, 4, 1}, {floor, -7, -2, 3, -1},
	} {
		q, rest, e := five[c.way].f(of(c.a), of(c.b))
		wantOK(t, five[c.way].name, q, e, of(c.q))
		wantOK(t, five[c.way].name+"'s rest", rest, e, of(c.rest))
	}
}

// P6.5, P6.11: all small numbers.
func TestDivisionsOfInts(t *testing.T) {
	for a := -40; a <= 40; a++ {
		for b := -15; b <= 15; b++ {
			if b != 0 {
				wantDivided(t, of(a), of(b))
				q, rest, e := whole.Quo(of(a), of(b))
				wantOK(t, "Quo", q, e, of(a/b))
				wantOK(t, "Quo's rest", rest, e, of(a%b))
			}
		}
	}
}

// P6.5, P6.11: all pairs.
func TestDivisions(t *testing.T) {
	for _, a := range samples() {
		for _, b := range samples() {
			if !isZero(b) {
				wantDivided(t, a, b)
			}
		}
	}
}

// P6.5: quotients as near to two, and next to them, of all signs.
func TestHalves(t *testing.T) {
	m := mix(2)
	for _, size := range []api.Nat{{1}, {2}, {^uint64(0)}, {0, 1}, m.runs(3), m.full(9), ones(640)} {
		for _, odd := range []int{1, -1, 3, -5, 1<<62 - 1} {
			b := must(t)(whole.Mul(above(size), of(2)))
			a := must(t)(whole.Mul(above(size), of(odd)))
			for _, by := range []api.Whole{b, must(t)(whole.Neg(b))} {
				for d := -1; d <= 1; d++ {
					wantDivided(t, must(t)(whole.Add(a, of(d))), by)
				}
			}
		}
	}
}

// P6.11: Floor's quotient is Ceil's, or by 1 less where b does not divide a.
func TestFloorAndCeil(t *testing.T) {
	for _, a := range samples() {
		for _, b := range samples() {
			if isZero(b) {
				continue
			}
			down, rest, _ := whole.Floor(a, b)
			up, _, _ := whole.Ceil(a, b)
			if !isZero(rest) {
				down = must(t)(whole.Add(down, of(1)))
			}
			wantWhole(t, "Ceil", up, down)
		}
	}
}

// P6.5: by 0, in every shape, whatever a is.
func TestByZero(t *testing.T) {
	for _, d := range divisions() {
		for _, zero := range []api.Whole{{}, below(nil), above(api.Nat{}), below(api.Nat{0, 0, 0})} {
			for _, a := range []api.Whole{of(0), of(5), of(-5), below(ones(300)), above(power(3 * api.MaxBits))} {
				q, rest, e := d.f(a, zero)
				wantErr(t, d.name+" by 0", e, api.ErrDivZero, q, rest)
			}
		}
	}
}

// pair is a quotient and a rest; where there is none, the call is refused.
type pair struct {
	q, rest api.Whole
}

// wantFive asks for the pairs of Quo, Floor, Ceil, Near and Euclid, or for
// ErrBig.
func wantFive(t *testing.T, what string, a, b api.Whole, want [5]*pair) {
	t.Helper()
	for i, d := range divisions() {
		q, rest, e := d.f(a, b)
		if want[i] == nil {
			wantErr(t, d.name+" of "+what, e, api.ErrBig, q, rest)
			continue
		}
		wantOK(t, d.name+" of "+what, q, e, want[i].q)
		wantOK(t, "the rest of "+d.name+" of "+what, rest, e, want[i].rest)
	}
}

// P6.5, R6: quotients at the limit. Away from 0 one may become by 1 too great.
func TestQuotientsAtTheLimit(t *testing.T) {
	full, over := ones(api.MaxBits), power(api.MaxBits)
	far := ones(api.MaxBits + 3) // 8 times full, and 7
	all := func(p *pair) [5]*pair { return [5]*pair{p, p, p, p, p} }
	wantFive(t, "full, 1", above(full), of(1), all(&pair{above(full), of(0)}))
	wantFive(t, "-full, -1", below(full), of(-1), all(&pair{above(full), of(0)}))
	wantFive(t, "over, -2", above(over), of(-2), all(&pair{below(power(api.MaxBits - 1)), of(0)}))
	wantFive(t, "over, 1", above(over), of(1), all(nil))
	wantFive(t, "-far, 3", below(far), of(3), all(nil))
	wantFive(t, "2^n, -3", above(power(3*api.MaxBits)), of(-3), all(nil))
	// 2^(n + 1) is three times two thirds of full, and 2.
	thirds, _, _ := whole.Quo(above(full), of(3))
	thirds = must(t)(whole.Add(thirds, thirds))
	low, high := &pair{thirds, of(2)}, &pair{must(t)(whole.Add(thirds, of(1))), of(-1)}
	wantFive(t, "2^(n + 1), 3", above(power(api.MaxBits+1)), of(3), [5]*pair{low, low, high, high, low})
	up, down := &pair{above(full), of(7)}, &pair{below(full), of(7)}
	wantFive(t, "far, 8", above(far), of(8), [5]*pair{up, up, nil, nil, up})
	wantFive(t, "far, -8", above(far), of(-8), [5]*pair{down, nil, down, nil, down})
	up, down = &pair{above(full), of(-7)}, &pair{below(full), of(-7)}
	wantFive(t, "-far, 8", below(far), of(8), [5]*pair{down, nil, down, nil, nil})
	wantFive(t, "-far, -8", below(far), of(-8), [5]*pair{up, up, nil, nil, nil})
}

// P6.5, R6: rests at the limit. One that is answered may have few bits, though
// the one towards 0 has too many, and the other way round.
func TestRestsAtTheLimit(t *testing.T) {
	over, next := power(api.MaxBits), power(api.MaxBits)
	next[0] = 1
	of := func(q, rest int) *pair { return &pair{of(q), of(rest)} }
	wantFive(t, "over, next", above(over), above(next), [5]*pair{nil, nil, of(1, -1), of(1, -1), nil})
	wantFive(t, "over, -next", above(over), below(next), [5]*pair{nil, of(-1, -1), nil, of(-1, -1), nil})
	wantFive(t, "-over, next", below(over), above(next), [5]*pair{nil, of(-1, 1), nil, of(-1, 1), of(-1, 1)})
	wantFive(t, "-over, -next", below(over), below(next), [5]*pair{nil, nil, of(1, 1), of(1, 1), of(1, 1)})
	wantFive(t, "next, over", above(next), above(over), [5]*pair{of(1, 1), of(1, 1), &pair{whole.Of(2), below(ones(api.MaxBits))}, of(1, 1), of(1, 1)})
	wantFive(t, "next, next", below(next), above(next), [5]*pair{of(-1, 0), of(-1, 0), of(-1, 0), of(-1, 0), of(-1, 0)})
	last := &pair{whole.Of(1), below(ones(api.MaxBits))}
	wantFive(t, "1, over", whole.Of(1), above(over), [5]*pair{of(0, 1), of(0, 1), last, of(0, 1), of(0, 1)})
	wantFive(t, "1, next", whole.Of(1), above(next), [5]*pair{of(0, 1), of(0, 1), nil, of(0, 1), of(0, 1)})
	wantFive(t, "-1, next", whole.Of(-1), above(next), [5]*pair{of(0, -1), nil, of(0, -1), of(0, -1), nil})
}

// P6.5, R6: divisors, and dividends of them, that lower layers would not
// answer.
func TestDivisorsBeyondTheLimit(t *testing.T) {
	const n = api.MaxBits + 64
	b := ones(n)
	// (2^n - 1)(2^m + 1) is 2^(n+m), and 2^n - 1 without its bit m.
	const m = 6400
	a := make(api.Nat, (n+m)/64+1)
	copy(a, b)
	a[(n+m)/64] = 1
	a[m/64]--
	q := power(m)
	q[0] = 1
	p := &pair{below(q), of(0)}
	wantFive(t, "a product", above(a), below(b), [5]*pair{p, p, p, p, p})
	a[0] -= 5
	p = &pair{below(q), of(-5)}
	wantFive(t, "a product less 5", above(a), below(b), [5]*pair{nil, p, nil, p, nil})
}
