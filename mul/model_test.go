package mul_test

import (
	"slices"
	"testing"

	"surd/api"
	"surd/nat"
)

// modelProduct multiplies by digits of 16 bits, the sums of each place first:
// built unlike the program, so that both seldom err alike.
func modelProduct(a, b api.Nat) api.Nat {
	x, y := digits(a), digits(b)
	sums := make([]uint64, len(x)+len(y)+4)
	for i, v := range x {
		for j, w := range y {
			sums[i+j] += v * w
		}
	}
	made := make(api.Nat, len(sums)/4+1)
	carry := uint64(0)
	for i, v := range sums {
		carry += v
		made[i/4] |= carry & 0xffff << (i % 4 * 16)
		carry >>= 16
	}
	return made
}

func digits(a api.Nat) []uint64 {
	var out []uint64
	for _, v := range a {
		out = append(out, v&0xffff, v>>16&0xffff, v>>32&0xffff, v>>48)
	}
	return out
}

// mix draws numbers by a rule of its own: the same ones in every run.
type mix uint64

func (m *mix) next() uint64 {
	*m += 0x9e3779b97f4a7c15
	z := uint64(*m)
	z = (z ^ z>>30) * 0xbf58476d1ce4e5b9
	z = (z ^ z>>27) * 0x94d049bb133111eb
	return z ^ z>>31
}

// below draws a number from 0 to n - 1.
func (m *mix) below(n int) int { return int(m.next() % uint64(n)) }

// limb draws limbs at their ends, and at a third, as often as others.
func (m *mix) limb() uint64 {
	v := m.next()
	switch m.next() % 10 {
	case 0, 1:
		return 0
	case 2, 3:
		return ^uint64(0)
	case 4:
		return 1 << (v % 64)
	case 5:
		return 1<<(v%64) - 1
	case 6:
		return ^uint64(0) / 3
	}
	return v
}

func (m *mix) nat(limbs int) api.Nat {
	a := make(api.Nat, limbs)
	for i := range a {
		a[i] = m.limb()
	}
	return a
}

// runs draws a number of long runs of the same limb.
func (m *mix) runs(limbs int) api.Nat {
	a := make(api.Nat, limbs)
	v := m.limb()
	for i := range a {
		if m.next()%5 == 0 {
			v = m.limb()
		}
		a[i] = v
	}
	return a
}

// samples are numbers at their ends and drawn ones, in all their shapes.
func samples() []api.Nat {
	const top = ^uint64(0)
	out := []api.Nat{
		nil, {}, {0}, {0, 0, 0}, {1}, {1, 0, 0}, {2}, {3}, {7, 0},
		{top}, {top, 0}, {top - 1}, {1 << 63}, {1 << 32}, {1<<32 - 1},
		{0, 1}, {0, 1, 0}, {1, 1}, {top, 1}, {0, top}, {top, top}, {top, top, 0},
		{0, 0, 1}, {top, top, top}, {0, 0, 1 << 63}, {top, 0, top}, {0, top, 0, 0},
	}
	m := mix(1)
	for i := range 24 {
		out = append(out, m.nat(1+i%6))
	}
	for i := range 12 {
		out = append(out, m.runs(7+i*2))
	}
	return out
}

// power is 2^n.
func power(n int) api.Nat {
	a := make(api.Nat, n/64+1)
	a[n/64] = 1 << (n % 64)
	return a
}

// ones is 2^n - 1: n bits, all of them 1.
func ones(n int) api.Nat {
	a := make(api.Nat, n/64+1)
	for i := range n / 64 {
		a[i] = ^uint64(0)
	}
	a[n/64] = 1<<(n%64) - 1
	return a
}

// sum is the sum of all, and fails with the test where there is none.
func sum(t *testing.T, l ...api.Nat) api.Nat {
	t.Helper()
	var made api.Nat
	for _, a := range l {
		var e api.Errno
		if made, e = nat.Add(made, a); e != api.OK {
			t.Fatalf("a sum: error %d", e)
		}
	}
	return made
}

// must is a call's number, where the call may not be refused.
func must(t *testing.T) func(a api.Nat, e api.Errno) api.Nat {
	return func(a api.Nat, e api.Errno) api.Nat {
		t.Helper()
		if e != api.OK {
			t.Fatalf("error %d", e)
		}
		return a
	}
}

// wantNat asks for that number, in its normal shape.
func wantNat(t *testing.T, what string, got, want api.Nat) {
	t.Helper()
	for len(want) > 0 && want[len(want)-1] == 0 {
		want = want[:len(want)-1]
	}
	if !slices.Equal(got, want) {
		t.Errorf("%s: %v of %d limbs, not %v of %d", what, short(got), len(got), short(want), len(want))
	}
}

// wantOK asks for that number, and for no error.
func wantOK(t *testing.T, what string, got api.Nat, e api.Errno, want api.Nat) {
	t.Helper()
	if e != api.OK {
		t.Errorf("%s: error %d", what, e)
		return
	}
	wantNat(t, what, got, want)
}

// wantErr asks for that error, and for nothing beside it.
func wantErr(t *testing.T, what string, e, want api.Errno, got ...api.Nat) {
	t.Helper()
	if e != want {
		t.Errorf("%s: error %d, not %d", what, e, want)
	}
	for _, a := range got {
		if len(a) != 0 {
			t.Errorf("%s: %v beside error %d", what, short(a), e)
		}
	}
}

// short keeps a failure's text readable.
func short(a api.Nat) api.Nat { return a[:min(len(a), 8)] }
