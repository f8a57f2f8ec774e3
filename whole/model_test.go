package whole_test

import (
	"math/bits"
	"slices"
	"testing"

	"surd/api"
)

// The model is two's complement: a number is so many limbs that all numbers
// asked for have a limb more than they need, and each call is done modulo 2 to
// their bits, where no sign has to be looked at: built unlike the program, so
// that both seldom err alike.

// limbsOf is a number in n limbs of two's complement.
func limbsOf(a api.Whole, n int) []uint64 {
	out := make([]uint64, n)
	copy(out, a.Abs)
	if a.Neg {
		for i := range out {
			out[i] = ^out[i]
		}
		out = modelSum(out, limbsOf(of(1), n))
	}
	return out
}

// modelSum is a + b, limb by limb.
func modelSum(a, b []uint64) []uint64 {
	out := make([]uint64, len(a))
	var carry uint64
	for i := range a {
		out[i], carry = bits.Add64(a[i], b[i], carry)
	}
	return out
}

// modelProduct is a b, as at school.
func modelProduct(a, b []uint64) []uint64 {
	out := make([]uint64, len(a))
	for i, v := range a {
		var carry uint64
		for j, w := range b[:len(a)-i] {
			high, low := bits.Mul64(v, w)
			low, over := bits.Add64(low, carry, 0)
			high += over
			out[i+j], over = bits.Add64(out[i+j], low, 0)
			carry = high + over
		}
	}
	return out
}

// wantModel asks for a number in its normal shape that the limbs are.
func wantModel(t *testing.T, what string, got api.Whole, e api.Errno, want []uint64) {
	t.Helper()
	if e != api.OK {
		t.Errorf("%s: error %d", what, e)
		return
	}
	wantNormal(t, what, got)
	if !slices.Equal(limbsOf(got, len(want)), want) {
		t.Errorf("%s: %v of %d limbs, not %v", what, short(got), len(got.Abs), want[:min(len(want), 8)])
	}
}

// mix draws numbers by a rule of its own: the same ones in every run.
type mix uint64

func (m *mix) next() uint64 {
	*m += 0x9e3779b97f4a7c15
	z := uint64(*m)
	z = (z ^ z>>30) * 0xbf58476d1ce4e5b9
	z = (z ^ z>>27) * 0x94d049bb133111eb
	return z ^ z>>31
}

// below draws a number from 0 to n - 1.
func (m *mix) below(n int) int { return int(m.next() % uint64(n)) }

// limb draws limbs at their ends as often as others.
func (m *mix) limb() uint64 {
	v := m.next()
	switch m.next() % 10 {
	case 0, 1:
		return 0
	case 2, 3:
		return ^uint64(0)
	case 4:
		return 1 << (v % 64)
	case 5:
		return 1<<(v%64) - 1
	case 6:
		return 1 << 63
	}
	return v
}

func (m *mix) nat(limbs int) api.Nat {
	a := make(api.Nat, limbs)
	for i := range a {
		a[i] = m.limb()
	}
	return a
}

// runs draws a number of long runs of the same limb.
func (m *mix) runs(limbs int) api.Nat {
	a := make(api.Nat, limbs)
	v := m.limb()
	for i := range a {
		if m.next()%5 == 0 {
			v = m.limb()
		}
		a[i] = v
	}
	return a
}

// full draws a number with just that many limbs, none of them at an end.
func (m *mix) full(limbs int) api.Nat {
	a := make(api.Nat, limbs)
	for i := range a {
		a[i] = m.next() | 1
	}
	return a
}

// sizes are numbers at their ends and drawn ones, in all their shapes.
func sizes() []api.Nat {
	const top = ^uint64(0)
	out := []api.Nat{
		nil, {}, {0}, {0, 0, 0}, {1}, {1, 0, 0}, {2}, {3}, {7, 0}, {12}, {48},
		{top}, {top, 0}, {top - 1}, {1 << 63}, {1 << 32}, {1<<32 - 1}, {1<<63 - 1},
		{0, 1}, {0, 1, 0}, {1, 1}, {top, 1}, {0, top}, {top, top}, {top, top, 0}, {0, 1 << 63},
		{0, 0, 1}, {top, top, top}, {0, 0, 1 << 63}, {top, 0, top}, {0, top, 0, 0}, {0, 0, 12},
	}
	m := mix(1)
	for i := range 12 {
		out = append(out, m.nat(1+i%6))
	}
	for i := range 4 {
		out = append(out, m.runs(7+i*3))
	}
	return out
}

// power is 2^n.
func power(n int) api.Nat {
	a := make(api.Nat, n/64+1)
	a[n/64] = 1 << (n % 64)
	return a
}

// ones is 2^n - 1: n bits, all of them 1.
func ones(n int) api.Nat {
	a := make(api.Nat, n/64+1)
	for i := range n / 64 {
		a[i] = ^uint64(0)
	}
	a[n/64] = 1<<(n%64) - 1
	return a
}

// samples are numbers with a sign, in all their shapes.
func samples() []api.Whole {
	var out []api.Whole
	for _, size := range sizes() {
		out = append(out, above(size), below(size))
	}
	return out
}

// above and below are a number of that size, and its negative.
func above(size api.Nat) api.Whole { return api.Whole{Abs: size} }

func below(size api.Nat) api.Whole { return api.Whole{Neg: true, Abs: size} }

// of is an int as a number.
func of(n int) api.Whole {
	switch {
	case n > 0:
		return above(api.Nat{uint64(n)})
	case n < 0:
		return below(api.Nat{-uint64(n)})
	}
	return api.Whole{}
}

// list is ints as numbers.
func list(l ...int) []api.Whole {
	var out []api.Whole
	for _, n := range l {
		out = append(out, of(n))
	}
	return out
}

// isZero: is it 0, in whatever shape?
func isZero(a api.Whole) bool { return len(trim(a.Abs)) == 0 }

// trim leaves the noughts at the top out.
func trim(a api.Nat) api.Nat {
	for len(a) > 0 && a[len(a)-1] == 0 {
		a = a[:len(a)-1]
	}
	return a
}

// must is a call's number, where the call may not be refused.
func must(t *testing.T) func(a api.Whole, e api.Errno) api.Whole {
	return func(a api.Whole, e api.Errno) api.Whole {
		t.Helper()
		if e != api.OK {
			t.Fatalf("error %d", e)
		}
		return a
	}
}

// wantNormal asks for a normal shape.
func wantNormal(t *testing.T, what string, got api.Whole) {
	t.Helper()
	if n := len(got.Abs); n > 0 && got.Abs[n-1] == 0 || n == 0 && got.Neg {
		t.Errorf("%s: %v of %d limbs is not normal", what, short(got), n)
	}
}

// wantWhole asks for that number, in its normal shape.
func wantWhole(t *testing.T, what string, got, want api.Whole) {
	t.Helper()
	wantNormal(t, what, got)
	size := trim(want.Abs)
	if !slices.Equal(got.Abs, size) || got.Neg != (want.Neg && len(size) > 0) {
		t.Errorf("%s: %v of %d limbs, not %v of %d", what, short(got), len(got.Abs), short(want), len(size))
	}
}

// wantOK asks for that number, and for no error.
func wantOK(t *testing.T, what string, got api.Whole, e api.Errno, want api.Whole) {
	t.Helper()
	if e != api.OK {
		t.Errorf("%s: error %d", what, e)
		return
	}
	wantWhole(t, what, got, want)
}

// wantErr asks for that error, and for nothing beside it.
func wantErr(t *testing.T, what string, e, want api.Errno, got ...api.Whole) {
	t.Helper()
	if e != want {
		t.Errorf("%s: error %d, not %d", what, e, want)
	}
	for _, a := range got {
		if a.Neg || len(a.Abs) != 0 {
			t.Errorf("%s: %v beside error %d", what, short(a), e)
		}
	}
}

// short keeps a failure's text readable.
func short(a api.Whole) api.Whole {
	return api.Whole{Neg: a.Neg, Abs: a.Abs[:min(len(a.Abs), 8)]}
}
