package numeral_test

import (
	"slices"
	"testing"

	"surd/api"
	"surd/mul"
	"surd/nat"
)

// figures are the digits, as the chapter writes them.
const figures = "0123456789abcdefghijklmnopqrstuvwxyz"

// leastBase and mostBase are the ends of the bases.
const (
	leastBase = 2
	mostBase  = 36
)

// modelDigits are the digits one by one, from the lowest, by the division by
// one limb: built unlike the program, so that both seldom err alike.
func modelDigits(t *testing.T, a api.Nat, base int) []int {
	t.Helper()
	var out []int
	for len(out) == 0 || nat.Length(a) > 0 {
		high, digit, e := nat.Through(a, uint64(base))
		if e != api.OK {
			t.Fatalf("error %d", e)
		}
		out = append(out, int(digit))
		a = high
	}
	slices.Reverse(out)
	return out
}

// modelNumber is the number of digits one by one, from the highest.
func modelNumber(t *testing.T, base int, digits []int) api.Nat {
	t.Helper()
	var out api.Nat
	for _, d := range digits {
		out = plus(t, must(t)(nat.Times(out, uint64(base))), nat.From(uint64(d)))
	}
	return out
}

// modelText is how digits are written.
func modelText(digits []int) string {
	var out []byte
	for _, d := range digits {
		out = append(out, figures[d])
	}
	return string(out)
}

// powerOf is base^n.
func powerOf(t *testing.T, base, n int) api.Nat {
	t.Helper()
	return must(t)(mul.Pow(nat.From(uint64(base)), n))
}

// mix draws numbers by a rule of its own: the same ones in every run.
type mix uint64

func (m *mix) next() uint64 {
	*m += 0x9e3779b97f4a7c15
	z := uint64(*m)
	z = (z ^ z>>30) * 0xbf58476d1ce4e5b9
	z = (z ^ z>>27) * 0x94d049bb133111eb
	return z ^ z>>31
}

// below draws a number from 0 to n - 1.
func (m *mix) below(n int) int { return int(m.next() % uint64(n)) }

// limb draws limbs at their ends as often as others.
func (m *mix) limb() uint64 {
	v := m.next()
	switch m.next() % 10 {
	case 0, 1:
		return 0
	case 2, 3:
		return ^uint64(0)
	case 4:
		return 1 << (v % 64)
	case 5:
		return 1<<(v%64) - 1
	case 6:
		return 1 << 63
	}
	return v
}

func (m *mix) nat(limbs int) api.Nat {
	a := make(api.Nat, limbs)
	for i := range a {
		a[i] = m.limb()
	}
	return a
}

// runs draws a number of long runs of the same limb.
func (m *mix) runs(limbs int) api.Nat {
	a := make(api.Nat, limbs)
	v := m.limb()
	for i := range a {
		if m.next()%5 == 0 {
			v = m.limb()
		}
		a[i] = v
	}
	return a
}

// full draws a number with just that many limbs, none of them at an end.
func (m *mix) full(limbs int) api.Nat {
	a := make(api.Nat, limbs)
	for i := range a {
		a[i] = m.next() | 1
	}
	return a
}

// samples are numbers at their ends and drawn ones, in all their shapes.
func samples() []api.Nat {
	const top = ^uint64(0)
	out := []api.Nat{
		nil, {}, {0}, {0, 0, 0}, {1}, {1, 0, 0}, {2}, {3}, {7, 0}, {12}, {48},
		{top}, {top, 0}, {top - 1}, {1 << 63}, {1 << 32}, {1<<32 - 1}, {1<<63 - 1},
		{0, 1}, {0, 1, 0}, {1, 1}, {top, 1}, {0, top}, {top, top}, {top, top, 0}, {0, 1 << 63},
		{0, 0, 1}, {top, top, top}, {0, 0, 1 << 63}, {top, 0, top}, {0, top, 0, 0}, {0, 0, 12},
	}
	m := mix(1)
	for i := range 24 {
		out = append(out, m.nat(1+i%6))
	}
	for i := range 8 {
		out = append(out, m.runs(7+i*2))
	}
	return out
}

// power is 2^n.
func power(n int) api.Nat {
	a := make(api.Nat, n/64+1)
	a[n/64] = 1 << (n % 64)
	return a
}

// ones is 2^n - 1: n bits, all of them 1.
func ones(n int) api.Nat {
	a := make(api.Nat, n/64+1)
	for i := range n / 64 {
		a[i] = ^uint64(0)
	}
	a[n/64] = 1<<(n%64) - 1
	return a
}

// plus, minus and times are the sum, the difference and the product, and end
// the test where there is none.
func plus(t *testing.T, a, b api.Nat) api.Nat { t.Helper(); return must(t)(nat.Add(a, b)) }

func minus(t *testing.T, a, b api.Nat) api.Nat { t.Helper(); return must(t)(nat.Sub(a, b)) }

func times(t *testing.T, a, b api.Nat) api.Nat { t.Helper(); return must(t)(mul.Mul(a, b)) }

// must is a call's number, where the call may not be refused.
func must(t *testing.T) func(a api.Nat, e api.Errno) api.Nat {
	return func(a api.Nat, e api.Errno) api.Nat {
		t.Helper()
		if e != api.OK {
			t.Fatalf("error %d", e)
		}
		return a
	}
}

// wantNat asks for that number, in its normal shape.
func wantNat(t *testing.T, what string, got, want api.Nat) {
	t.Helper()
	for len(want) > 0 && want[len(want)-1] == 0 {
		want = want[:len(want)-1]
	}
	if !slices.Equal(got, want) {
		t.Errorf("%s: %v of %d limbs, not %v of %d", what, short(got), len(got), short(want), len(want))
	}
}

// wantOK asks for that number, and for no error.
func wantOK(t *testing.T, what string, got api.Nat, e api.Errno, want api.Nat) {
	t.Helper()
	if e != api.OK {
		t.Errorf("%s: error %d", what, e)
		return
	}
	wantNat(t, what, got, want)
}

// wantErr asks for that error, and for nothing beside it.
func wantErr(t *testing.T, what string, e, want api.Errno, got ...api.Nat) {
	t.Helper()
	if e != want {
		t.Errorf("%s: error %d, not %d", what, e, want)
	}
	for _, a := range got {
		if len(a) != 0 {
			t.Errorf("%s: %v beside error %d", what, short(a), e)
		}
	}
}

// short keeps a failure's text readable.
func short(a api.Nat) api.Nat { return a[:min(len(a), 8)] }
