package rounded_test

import (
	"testing"

	"surd/api"
	"surd/nat"
	"surd/ratio"
	"surd/rounded"
	"surd/whole"
)

// quo and rational are Quo and Ratio, still to be told the direction.
func quo(a, b api.Dyadic, pos int) func(mode api.Mode) (api.Dyadic, api.Errno) {
	return func(mode api.Mode) (api.Dyadic, api.Errno) { return rounded.Quo(a, b, pos, mode) }
}

func rational(r api.Ratio, pos int) func(mode api.Mode) (api.Dyadic, api.Errno) {
	return func(mode api.Mode) (api.Dyadic, api.Errno) { return rounded.Ratio(r, pos, mode) }
}

// The chapter's examples 1 and 3, as far as they are of Quo and Ratio.
func TestExamplesOfQuo(t *testing.T) {
	one, three := of(1, 0), of(3, 0)
	wantRow(t, "1 / 3", row{down: of(5, -4), up: of(3, -3), near: of(5, -4)}, quo(one, three, -4))
	wantRow(t, "-1 / 3", row{down: of(-6, -4), up: of(-5, -4), near: of(-5, -4)}, quo(of(-1, 0), three, -4))
	wantRow(t, "1 / 2", row{down: of(0, 0), up: one, near: of(0, 0)}, quo(one, of(2, 0), 0))
	wantRow(t, "3 / 2", row{down: one, up: of(2, 0), near: of(2, 0)}, quo(three, of(2, 0), 0))
	wantRow(t, "1 / 0", refused(api.ErrRoundZero), quo(one, of(0, 0), 0))
	wantRow(t, "1/3", row{down: of(1, -2), up: of(1, -1), near: of(1, -2)}, rational(over(1, 3), -2))
}

// inSteps is n / d, d being above 0, as a whole number, by ints.
func inSteps(n, d int, mode api.Mode) int {
	down := n / d
	if n < down*d {
		down--
	}
	// Twice what is left, less a step.
	side := 2*(n-down*d) - d
	switch {
	case mode == api.Up && n != down*d, mode == api.Near && (side > 0 || side == 0 && down%2 != 0):
		return down + 1
	}
	return down
}

// P9.1: small numbers at positions about them, by ints.
func TestQuotientsOfInts(t *testing.T) {
	for n := -21; n <= 21; n++ {
		for d := 1; d <= 12; d++ {
			for pos := -5; pos <= 5; pos++ {
				for _, mode := range modes() {
					wanted := of(inSteps(n<<max(-pos, 0), d<<max(pos, 0), mode), pos)
					got, e := rounded.Quo(of(n, 0), of(d, 0), pos, mode)
					want(t, "Quo", got, e, wanted)
					got, e = rounded.Quo(of(-n, 3), of(-d, 3), pos, mode)
					want(t, "Quo of opposites", got, e, wanted)
					got, e = rounded.Quo(of(n, -7), of(d, 4), pos-11, mode)
					want(t, "Quo, elsewhere", got, e, api.Dyadic{Man: wanted.Man, Exp: wanted.Exp - 11})
					got, e = rounded.Ratio(over(n, d), pos, mode)
					want(t, "Ratio", got, e, wanted)
				}
			}
		}
	}
}

// quotient is a / b at a position, by a division of whole numbers.
func quotient(t *testing.T, a, b api.Dyadic, pos int, mode api.Mode) api.Dyadic {
	t.Helper()
	unit := min(a.Exp, b.Exp+pos)
	b.Exp += pos
	divide := []func(a, b api.Whole) (api.Whole, api.Whole, api.Errno){api.Down: whole.Floor, api.Up: whole.Ceil, api.Near: whole.Near}[mode]
	q, _, e := divide(laid(t, a, unit), laid(t, b, unit))
	if e != api.OK {
		t.Fatalf("error %d", e)
	}
	return api.Dyadic{Man: q, Exp: pos}
}

// places are positions about a number's top, and farther off.
func places(top int) []int {
	out := []int{top - 500, top - 129, top - 128, top - 65, top - 64, top - 63, top - 10, top + 64, top + 500}
	for d := -4; d <= 4; d++ {
		out = append(out, top+d)
	}
	return out
}

// P9.1: all pairs of samples, by whole numbers.
func TestQuo(t *testing.T) {
	for _, a := range samples() {
		for _, b := range samples() {
			top := a.Exp - b.Exp + nat.Length(a.Man.Abs) - nat.Length(b.Man.Abs)
			for _, pos := range places(top) {
				for _, mode := range modes() {
					got, e := rounded.Quo(a, b, pos, mode)
					if whole.Sign(b.Man) == 0 {
						wantErr(t, "Quo by 0", got, e, api.ErrRoundZero)
						continue
					}
					want(t, "Quo", got, e, quotient(t, a, b, pos, mode))
				}
			}
		}
	}
}

// P9.1: Ratio, by what package ratio rounds, of terms in any shape.
func TestRatio(t *testing.T) {
	drawn := mix(2)
	for i := range 300 {
		num, den := drawn.dyadic(1+i%5).Man, drawn.divisor(1+i%3).Man.Abs
		if i%3 == 0 {
			common := drawn.nat(1)
			common[0] |= 4
			num.Abs = must[api.Whole](t)(whole.Mul(num, api.Whole{Abs: common})).Abs
			den = append(must[api.Whole](t)(whole.Mul(api.Whole{Abs: den}, api.Whole{Abs: common})).Abs, 0)
		}
		r := api.Ratio{Num: num, Den: den}
		for _, pos := range places(nat.Length(num.Abs) - nat.Length(den)) {
			for _, mode := range modes() {
				got, e := rounded.Ratio(r, pos, mode)
				want(t, "Ratio", got, e, api.Dyadic{Man: must[api.Whole](t)(ratio.At(r, -pos, mode)), Exp: pos})
			}
		}
	}
}

// P9.1: halves of a step, and what is next to them, of all lengths and signs.
func TestHalfSteps(t *testing.T) {
	drawn := mix(3)
	for i := range 200 {
		b, steps := drawn.divisor(1+i%3), drawn.nat(1+i%4)
		steps[0] |= 1
		pos := drawn.below(300) - 150
		exact := times(t, b, above(steps, pos-1))
		for _, a := range []api.Dyadic{exact, plus(t, exact, of(1, exact.Exp-90)), plus(t, exact, of(-1, exact.Exp-90)), plus(t, exact, of(1, exact.Exp))} {
			for _, x := range []api.Dyadic{a, minus(a)} {
				for _, mode := range modes() {
					got, e := rounded.Quo(x, b, pos, mode)
					want(t, "Quo", got, e, quotient(t, x, b, pos, mode))
				}
			}
		}
	}
}

// P9.1, R6: exponents and positions as far as may be.
func TestQuotientsFarAway(t *testing.T) {
	nought, one, high, low := api.Dyadic{}, of(1, 0), of(1, far), of(1, -far)
	wantRow(t, "a little", row{down: nought, up: high, near: nought}, quo(low, high, far))
	wantRow(t, "a little below", row{down: minus(high), up: nought, near: nought}, quo(low, minus(high), far))
	wantRow(t, "a little", row{down: nought, up: low, near: nought}, quo(low, high, -far))
	wantRow(t, "much", refused(api.ErrBig), quo(high, low, far))
	wantRow(t, "much", refused(api.ErrBig), quo(high, low, -far))
	wantRow(t, "1", refused(api.ErrBig), quo(high, high, -far))
	wantRow(t, "1", exactly(one), quo(high, high, 0))
	wantRow(t, "1", exactly(one), quo(low, low, -5))
	wantRow(t, "far", exactly(high), quo(high, one, far))
	wantRow(t, "far", exactly(low), quo(low, one, -far))
	wantRow(t, "beyond, and back", exactly(high), quo(of(6, far), of(6, 0), far-9))
	wantRow(t, "0", exactly(nought), quo(of(0, -far), low, far))
	wantRow(t, "0", exactly(nought), quo(of(0, far), low, -far))
	wantRow(t, "3 / 2 of the farthest", row{down: high, e: [3]api.Errno{api.OK, api.ErrDyadicExp, api.ErrDyadicExp}}, quo(of(3, far), of(2, 0), far))
	wantRow(t, "-3 / 2 of the farthest", row{up: minus(high), e: [3]api.Errno{api.ErrDyadicExp, api.OK, api.ErrDyadicExp}}, quo(of(-3, far), of(2, 0), far))
	wantRow(t, "too far", refused(api.ErrDyadicExp), quo(of(2, far), one, far))
	wantRow(t, "too far", refused(api.ErrDyadicExp), quo(high, of(1, -1), far-9))
	wantRow(t, "too long ahead of too far", refused(api.ErrBig), quo(high, of(1, -1), far-api.MaxBits))
	wantRow(t, "1 at the top", row{down: nought, up: high, near: nought}, rational(over(1, 1), far))
	wantRow(t, "-1/3 at the top", row{down: minus(high), up: nought, near: nought}, rational(over(-1, 3), far))
	wantRow(t, "1 at the bottom", refused(api.ErrBig), rational(over(1, 1), -far))
	wantRow(t, "0 at the bottom", exactly(nought), rational(over(0, 5), -far))
}

// thirds is 2^n / 3, rounded down, as limbs; n is a multiple of 64, and one
// more where odd is true.
func thirds(n int, odd bool) api.Nat {
	a := make(api.Nat, n/64)
	for i := range a {
		a[i] = 0x5555555555555555
		if odd {
			a[i] *= 2
		}
	}
	return a
}

// plusOne is a + 1, where no limb is full.
func plusOne(a api.Nat) api.Nat {
	out := append(api.Nat(nil), a...)
	out[0]++
	return out
}

// P9.1: as many bits as may be, and one more, whatever the normal dyadic has.
func TestQuotientsAtTheLimit(t *testing.T) {
	const n = api.MaxBits
	one, three := of(1, 0), of(3, 0)
	a, b := thirds(n, false), thirds(n, true)
	wantRow(t, "2^n / 3", row{down: above(a, -n), up: above(plusOne(a), -n), near: above(a, -n)}, quo(one, three, -n))
	wantRow(t, "-2^(n + 1) / 3", row{down: below(plusOne(b), -n-1), up: below(b, -n-1), near: below(plusOne(b), -n-1)}, quo(one, of(-3, 0), -n-1))
	wantRow(t, "2^(n + 2) / 3", refused(api.ErrBig), quo(one, three, -n-2))
	wantRow(t, "1/3", row{down: above(a, -n), up: above(plusOne(a), -n), near: above(a, -n)}, rational(over(1, 3), -n))
	wantRow(t, "1/3", refused(api.ErrBig), rational(over(1, 3), -n-2))
	wantRow(t, "n bits", exactly(one), quo(one, one, 1-n))
	wantRow(t, "one more", refused(api.ErrBig), quo(one, one, -n))
	wantRow(t, "one more of -5", refused(api.ErrBig), quo(of(-5, 0), one, 2-n))
	wantRow(t, "n bits of -5", exactly(of(-5, 0)), quo(of(-5, 0), one, 3-n))

	full, big := above(ones(n), 0), api.ErrBig
	wantRow(t, "full", exactly(full), quo(full, one, 0))
	wantRow(t, "full and a half", row{down: full, e: [3]api.Errno{api.OK, big, big}}, quo(above(ones(n+1), 0), of(2, 0), 0))
	wantRow(t, "-full and a half", row{up: minus(full), e: [3]api.Errno{big, api.OK, big}}, quo(above(ones(n+1), 0), of(-2, 0), 0))
	quarter := ones(n + 2)
	quarter[0] -= 2
	down := row{down: full, near: full, e: [3]api.Errno{api.OK, big, api.OK}}
	wantRow(t, "full and a quarter", down, quo(above(quarter, 0), of(4, 0), 0))
	wantRow(t, "full and a quarter", down, rational(api.Ratio{Num: api.Whole{Abs: quarter}, Den: api.Nat{4, 0}}, 0))
}

// P9.1: numbers with more bits than an answer may have.
func TestQuotientsOfLongNumbers(t *testing.T) {
	const n = api.MaxBits + 64
	one := of(1, 0)
	wantRow(t, "in a long shape", row{down: of(5, -4), up: of(3, -3), near: of(5, -4)}, quo(above(power(3*n), -3*n), above(append(make(api.Nat, n/64), 3, 0), -n), -4))
	wantRow(t, "a long one by itself", exactly(of(-1, 0)), quo(above(ones(2*n), 7), below(ones(2*n), 7), -4))
	wantRow(t, "1 by a long one", row{down: of(0, 0), up: one, near: of(0, 0)}, quo(one, above(powerAnd(n, 3), 0), 0))
	wantRow(t, "a long one by 1", refused(api.ErrBig), quo(above(powerAnd(n, 3), 0), one, 0))
	wantRow(t, "its top", row{down: of(1, n), up: above(powerAnd(64, 1), n-64), near: of(1, n)}, quo(above(powerAnd(n, 3), 0), one, n-64))
	wantRow(t, "next to 1", row{down: of(0, 0), up: one, near: one}, quo(above(ones(n), 0), above(power(n), 0), 0))

	// By 2^n + 2 a rest is a half just if it is 2^(n-1) + 1.
	den := powerAnd(n, 2)
	for q := range uint64(6) {
		down, up := of(int(q), 0), of(int(q+1), 0)
		even := down
		if q%2 > 0 {
			even = up
		}
		for _, c := range []struct {
			low  uint64
			near api.Dyadic
		}{{2*q + 0, down}, {2*q + 1, even}, {2*q + 2, up}} {
			num := power(n)
			num[n/64], num[n/64-1], num[0] = q, 1<<63, c.low
			wantRow(t, "beside a half", row{down: down, up: up, near: c.near}, quo(above(num, 5), above(den, 5), 0))
			wantRow(t, "beside a half", row{down: down, up: up, near: c.near}, rational(api.Ratio{Num: api.Whole{Abs: num}, Den: den}, 0))
		}
	}
}

// P9.1: a quotient of as many bits as may be, and a rest of more.
func TestLongQuotientsByLongNumbers(t *testing.T) {
	const n = api.MaxBits
	// q is n bits, all of them 1; three times it is 2^(n+1) + 2^n - 3.
	thrice := append(ones(n)[:n/64:n/64], 2)
	thrice[0] -= 2
	den := above(append(make(api.Nat, n/64+1), 3), 0)
	full, big := above(ones(n), 0), api.ErrBig
	down := row{down: full, near: full, e: [3]api.Errno{api.OK, big, api.OK}}
	up := row{down: full, e: [3]api.Errno{api.OK, big, big}}
	for _, c := range []struct {
		what      string
		top, next uint64
		row       row
	}{{"nothing", 0, 0, exactly(full)}, {"a third", 1, 0, down}, {"a half", 1, 1 << 63, up}, {"less", 1, 1<<63 - 1, down}, {"two thirds", 2, 0, up}} {
		num := append(make(api.Nat, n/64+1), thrice...)
		num[n/64+1] += c.top
		num[n/64] = c.next
		wantRow(t, c.what, c.row, quo(above(num, 0), den, 0))
	}
	wantRow(t, "one more", refused(big), quo(above(append(make(api.Nat, n/64+1), append(make(api.Nat, n/64), 3)...), 0), den, 0))
}
