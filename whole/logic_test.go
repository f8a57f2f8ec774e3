package whole_test

import (
	"math"
	"testing"

	"surd/api"
	"surd/whole"
)

// The chapter's example 3.
func TestExamplesOfBits(t *testing.T) {
	for _, c := range []struct {
		name       string
		f          two
		a, b, want int
	}{
		{"And", whole.And, -2, 7, 6}, {"Or", whole.Or, -8, 3, -5}, {"Xor", whole.Xor, -1, 5, -6},
	} {
		x, e := c.f(of(c.a), of(c.b))
		wantOK(t, c.name, x, e, of(c.want))
	}
	x, e := whole.Not(of(0))
	wantOK(t, "Not(0)", x, e, of(-1))
	wantBit(t, of(-1), 1000000, 1)
	wantTail(t, of(12), 2)
	wantTail(t, of(0), -1)
}

func wantBit(t *testing.T, a api.Whole, i, want int) {
	t.Helper()
	if got, e := whole.Bit(a, i); got != want || e != api.OK {
		t.Errorf("bit %d of %v: %d, error %d", i, short(a), got, e)
	}
}

func wantTail(t *testing.T, a api.Whole, want int) {
	t.Helper()
	if got, e := whole.Tail(a); got != want || e != api.OK {
		t.Errorf("Tail of %v: %d, error %d", short(a), got, e)
	}
}

// P6.8: all small numbers, and ints at their ends, as Go has their bits.
func TestBitsOfInts(t *testing.T) {
	for _, a := range ints() {
		x, e := whole.Not(of(a))
		wantOK(t, "Not", x, e, of(^a))
		for i := range 70 {
			wantBit(t, of(a), i, a>>i&1)
		}
		for _, b := range ints() {
			x, e := whole.And(of(a), of(b))
			wantOK(t, "And", x, e, of(a&b))
			x, e = whole.Or(of(a), of(b))
			wantOK(t, "Or", x, e, of(a|b))
			x, e = whole.Xor(of(a), of(b))
			wantOK(t, "Xor", x, e, of(a^b))
		}
	}
}

// P6.8: a bit is the rest by 2 of Floor(a / 2^i).
func TestBit(t *testing.T) {
	for _, a := range samples() {
		for _, i := range []int{0, 1, 5, 62, 63, 64, 65, 127, 128, 191, 192, 300, 400} {
			high, _, e := whole.Floor(a, above(power(i)))
			wantOK(t, "Floor", high, e, high)
			_, rest, e := whole.Euclid(high, of(2))
			wantOK(t, "Euclid", rest, e, rest)
			wantBit(t, a, i, len(rest.Abs))
		}
	}
}

// P6.8: bits at their ends: none below 0, and the sign without end above.
func TestBitAtTheEnds(t *testing.T) {
	for _, i := range []int{-1, -2, math.MinInt} {
		for _, a := range []api.Whole{of(0), of(1), of(-1), below(power(api.MaxBits))} {
			if bit, e := whole.Bit(a, i); bit != 0 || e != api.ErrArg {
				t.Errorf("bit %d: %d, error %d", i, bit, e)
			}
		}
	}
	for _, i := range []int{api.MaxBits + 7, 1 << 40, 1<<40 + 1, math.MaxInt} {
		wantBit(t, of(5), i, 0)
		wantBit(t, of(-5), i, 1)
		wantBit(t, below(api.Nat{0, 0}), i, 0)
		wantBit(t, below(power(api.MaxBits)), i, 1)
	}
	wantBit(t, below(power(api.MaxBits)), api.MaxBits-1, 0)
	wantBit(t, below(power(api.MaxBits)), api.MaxBits, 1)
	wantBit(t, above(power(api.MaxBits)), api.MaxBits, 1)
	wantBit(t, above(power(api.MaxBits)), api.MaxBits+1, 0)
}

// P6.8: Tail, in every shape: a shift by it takes just the noughts off.
func TestTail(t *testing.T) {
	for _, zero := range []api.Whole{{}, below(nil), above(api.Nat{0}), below(api.Nat{0, 0, 0})} {
		wantTail(t, zero, -1)
	}
	for _, a := range samples() {
		if isZero(a) {
			continue
		}
		n, e := whole.Tail(a)
		odd := must(t)(whole.Shift(a, -n))
		if e != api.OK || n < 0 || odd.Abs[0]%2 == 0 {
			t.Fatalf("Tail of %v: %d, error %d", short(a), n, e)
		}
		wantWhole(t, "without its tail, and back", must(t)(whole.Shift(odd, n)), a)
	}
	wantTail(t, below(power(api.MaxBits+5)), api.MaxBits+5)
	wantTail(t, above(ones(api.MaxBits+5)), 0)
}

// P6.8: And, Or and Xor of all pairs, bit by bit.
func TestLogic(t *testing.T) {
	const limbs = 18
	some := samples()
	for _, a := range some {
		for _, b := range some {
			x, y := limbsOf(a, limbs), limbsOf(b, limbs)
			and, or, xor := make([]uint64, limbs), make([]uint64, limbs), make([]uint64, limbs)
			for i := range 64 * limbs {
				v, w := x[i/64]>>(i%64)&1, y[i/64]>>(i%64)&1
				and[i/64] |= v * w << (i % 64)
				or[i/64] |= max(v, w) << (i % 64)
				xor[i/64] |= (v + w) % 2 << (i % 64)
			}
			got, e := whole.And(a, b)
			wantModel(t, "And", got, e, and)
			got, e = whole.Or(a, b)
			wantModel(t, "Or", got, e, or)
			got, e = whole.Xor(a, b)
			wantModel(t, "Xor", got, e, xor)
		}
	}
}

// P6.8, P6.14: the laws of bits.
func TestLawsOfBits(t *testing.T) {
	some := samples()
	for _, a := range some {
		not := must(t)(whole.Not(a))
		wantWhole(t, "Not", not, must(t)(whole.Sub(must(t)(whole.Neg(a)), of(1))))
		wantWhole(t, "Not(Not)", must(t)(whole.Not(not)), a)
		for _, b := range some {
			and, or, xor := must(t)(whole.And(a, b)), must(t)(whole.Or(a, b)), must(t)(whole.Xor(a, b))
			wantWhole(t, "And + Or", must(t)(whole.Add(and, or)), must(t)(whole.Add(a, b)))
			wantWhole(t, "Xor", xor, must(t)(whole.Sub(or, and)))
			wantWhole(t, "And(a, Not(b))", must(t)(whole.And(a, must(t)(whole.Not(b)))), must(t)(whole.Sub(a, and)))
		}
	}
}

// P6.14: Shift for n below 0 takes the last bits off.
func TestShiftTakesBitsOff(t *testing.T) {
	for _, a := range samples() {
		for _, n := range []int{1, 2, 63, 64, 65, 130} {
			high := must(t)(whole.Shift(a, -n))
			for i := range 300 {
				bit, e := whole.Bit(a, i+n)
				if e != api.OK {
					t.Fatalf("error %d", e)
				}
				wantBit(t, high, i, bit)
			}
		}
	}
}

// P6.8, R6: ErrBig is asked of the answers, not of what is handed in.
func TestLogicAtTheLimit(t *testing.T) {
	full, over := ones(api.MaxBits), power(api.MaxBits)
	for _, c := range []struct {
		name       string
		f          two
		a, b, want api.Whole
	}{
		{"And of -over, 7", whole.And, below(over), of(7), of(0)}, {"And of over, over - 1", whole.And, above(over), above(full), of(0)},
		{"Or of -over, -3", whole.Or, below(over), of(-3), of(-3)}, {"Xor of over, over", whole.Xor, above(over), above(over), of(0)},
		{"Xor of over, over and full", whole.Xor, above(over), above(ones(api.MaxBits + 1)), above(full)},
		{"Xor of -1, -full", whole.Xor, of(-1), below(full), above(append(api.Nat{^uint64(0) - 1}, full[1:]...))},
		{"Or of -over, over", whole.Or, below(over), above(full), of(-1)},
	} {
		x, e := c.f(c.a, c.b)
		wantOK(t, c.name, x, e, c.want)
	}
	for _, c := range []struct {
		name string
		f    two
		a, b api.Whole
	}{
		// Both would be -over.
		{"And of -full, -2", whole.And, below(full), of(-2)}, {"Xor of full, -1", whole.Xor, above(full), of(-1)},
		{"Or of over, 1", whole.Or, above(over), of(1)}, {"And of over, -1", whole.And, above(over), of(-1)},
		{"Or of -over, 0", whole.Or, below(over), of(0)},
	} {
		x, e := c.f(c.a, c.b)
		wantErr(t, c.name, e, api.ErrBig, x)
	}
	x, e := whole.Not(below(over))
	wantOK(t, "Not of -over", x, e, above(full))
	x, e = whole.Not(below(full))
	wantOK(t, "Not of -full", x, e, above(append(api.Nat{^uint64(0) - 1}, full[1:]...)))
	x, e = whole.Not(above(full))
	wantErr(t, "Not of full", e, api.ErrBig, x)
	x, e = whole.Not(above(over))
	wantErr(t, "Not of over", e, api.ErrBig, x)
	x, e = whole.Not(below(power(api.MaxBits + 1)))
	wantErr(t, "Not of -2 over", e, api.ErrBig, x)
}
