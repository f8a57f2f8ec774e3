package nat_test

import (
	"testing"

	"surd/api"
	"surd/nat"
)

// multipliers are limbs at their ends, and some between.
func multipliers() []uint64 {
	out := []uint64{0, 1, 2, 3, 7, 10, 1 << 32, 1<<32 - 1, 1 << 63, 1<<63 - 1, 1<<64 - 2, 1<<64 - 1}
	m := mix(2)
	for range 4 {
		out = append(out, m.next())
	}
	return out
}

func wantRest(t *testing.T, what string, got, want uint64) {
	t.Helper()
	if got != want {
		t.Errorf("%s: %d, not %d", what, got, want)
	}
}

// P1.2: Add and Sub, of all pairs.
func TestAddSub(t *testing.T) {
	for _, a := range samples() {
		for _, b := range samples() {
			x, y := modelOf(a), modelOf(b)
			s, e := nat.Add(a, b)
			wantOK(t, "Add", s, e, x.plus(y).nat())
			d, e := nat.Sub(a, b)
			if x.compare(y) < 0 {
				wantErr(t, "Sub of the lesser", d, e, api.ErrNatLess)
			} else {
				wantOK(t, "Sub", d, e, x.minus(y).nat())
			}
		}
	}
}

// P1.2: Times and Through.
func TestTimesThrough(t *testing.T) {
	for _, a := range samples() {
		for _, v := range multipliers() {
			x, y := modelOf(a), modelOf(api.Nat{v})
			p, e := nat.Times(a, v)
			wantOK(t, "Times", p, e, x.times(y).nat())
			q, rest, e := nat.Through(a, v)
			if v == 0 {
				wantErr(t, "Through 0", q, e, api.ErrArg)
				wantRest(t, "the rest through 0", rest, 0)
				continue
			}
			quotient, left := x.through(y)
			wantOK(t, "Through", q, e, quotient.nat())
			wantRest(t, "the rest", rest, left.small())
		}
	}
}

// P1.2, R6: answers of just MaxBits bits, and of one more.
func TestSumsAtTheLimit(t *testing.T) {
	full, over := ones(api.MaxBits), power(api.MaxBits)
	half := power(api.MaxBits - 1)

	s, e := nat.Add(full, nil)
	wantOK(t, "full + 0", s, e, full)
	s, e = nat.Add(half, ones(api.MaxBits-1))
	wantOK(t, "half + (half - 1)", s, e, full)
	s, e = nat.Add(full, api.Nat{1})
	wantErr(t, "full + 1", s, e, api.ErrBig)
	s, e = nat.Add(nil, over)
	wantErr(t, "0 + over", s, e, api.ErrBig)

	s, e = nat.Times(half, 1)
	wantOK(t, "half times 1", s, e, half)
	s, e = nat.Times(power(api.MaxBits-2), 3)
	wantOK(t, "a quarter times 3", s, e, append(make(api.Nat, api.MaxBits/64-1), 3<<62))
	s, e = nat.Times(half, 2)
	wantErr(t, "half times 2", s, e, api.ErrBig)
	s, e = nat.Times(over, 1)
	wantErr(t, "over times 1", s, e, api.ErrBig)
}

// P1.2, R6: a number that is handed in may have more than MaxBits bits; the
// answer alone is asked whether it has.
func TestSumsOfGreatNumbers(t *testing.T) {
	over, more := power(api.MaxBits), power(api.MaxBits+64)

	s, e := nat.Sub(over, api.Nat{1})
	wantOK(t, "over - 1", s, e, ones(api.MaxBits))
	s, e = nat.Sub(more, more)
	wantOK(t, "more - more", s, e, nil)
	s, e = nat.Sub(over, nil)
	wantErr(t, "over - 0", s, e, api.ErrBig)
	s, e = nat.Sub(more, over)
	wantErr(t, "more - over", s, e, api.ErrBig)
	s, e = nat.Times(more, 0)
	wantOK(t, "more times 0", s, e, nil)

	q, rest, e := nat.Through(append(power(api.MaxBits), 0), 2)
	wantOK(t, "over / 2", q, e, power(api.MaxBits-1))
	wantRest(t, "its rest", rest, 0)
	odd := append(api.Nat{3}, make(api.Nat, api.MaxBits/64-1)...)
	odd = append(odd, 1)
	q, rest, e = nat.Through(odd, 4)
	wantOK(t, "(over + 3) / 4", q, e, power(api.MaxBits-2))
	wantRest(t, "its rest", rest, 3)
	q, rest, e = nat.Through(append(api.Nat{3, 0}, odd[1:]...), 2)
	wantErr(t, "more / 2", q, e, api.ErrBig)
	wantRest(t, "the rest beside ErrBig", rest, 0)
	q, rest, e = nat.Through(over, 1)
	wantErr(t, "over / 1", q, e, api.ErrBig)
	wantRest(t, "the rest beside ErrBig", rest, 0)
}

// R2, R6: ErrBig comes behind the errors that the chapter names.
func TestSumsOrderOfErrors(t *testing.T) {
	// So great that every quotient by a limb is too great as well.
	over, more := power(api.MaxBits+200), power(api.MaxBits+201)
	s, e := nat.Sub(over, more)
	wantErr(t, "over - more", s, e, api.ErrNatLess)
	s, e = nat.Sub(nil, more)
	wantErr(t, "0 - more", s, e, api.ErrNatLess)
	q, rest, e := nat.Through(more, 0)
	wantErr(t, "more / 0", q, e, api.ErrArg)
	wantRest(t, "its rest", rest, 0)
}

// P1.5: Add is commutative and associative, Sub undoes it; Compare is -1 just
// if Sub the other way round is OK and not 0.
func TestLawsOfSums(t *testing.T) {
	some := samples()
	for i, a := range some {
		for j, b := range some {
			ab, _ := nat.Add(a, b)
			ba, _ := nat.Add(b, a)
			wantNat(t, "b + a", ba, ab)
			back, e := nat.Sub(ab, b)
			wantOK(t, "a + b - b", back, e, a)
			c := some[(3*i+5*j)%len(some)]
			bc, _ := nat.Add(b, c)
			left, _ := nat.Add(ab, c)
			right, _ := nat.Add(a, bc)
			wantNat(t, "a + (b + c)", right, left)
			d, e := nat.Sub(b, a)
			if (nat.Compare(a, b) == -1) != (e == api.OK && len(d) != 0) {
				t.Errorf("Compare(%v, %v) is %d, b - a is %v, error %d", a, b, nat.Compare(a, b), d, e)
			}
		}
	}
}

// P1.7: q d and the rest is a, the rest less than d.
func TestLawOfThrough(t *testing.T) {
	for _, a := range samples() {
		for _, d := range multipliers()[1:] {
			q, rest, _ := nat.Through(a, d)
			qd, _ := nat.Times(q, d)
			back, e := nat.Add(qd, nat.From(rest))
			wantOK(t, "q d + rest", back, e, a)
			if rest >= d {
				t.Errorf("%v / %d leaves %d", a, d, rest)
			}
		}
	}
}
