package nat_test

import (
	"slices"
	"testing"

	"surd/api"
)

// A model is a number by its binary digits, the least first, none 0 at the
// top: slow, and built unlike the program, so that both seldom err alike.
type model []byte

func trimModel(m model) model {
	for len(m) > 0 && m[len(m)-1] == 0 {
		m = m[:len(m)-1]
	}
	return m
}

func modelOf(a api.Nat) model {
	var m model
	for _, v := range a {
		for i := 0; i < 64; i++ {
			m = append(m, byte(v>>i&1))
		}
	}
	return trimModel(m)
}

func (m model) digit(i int) byte {
	if i < len(m) {
		return m[i]
	}
	return 0
}

func (m model) nat() api.Nat {
	a := make(api.Nat, (len(m)+63)/64)
	for i, d := range m {
		a[i/64] |= uint64(d) << (i % 64)
	}
	return a
}

// small wants m below 2^64.
func (m model) small() uint64 {
	v := uint64(0)
	for i, d := range m {
		v |= uint64(d) << i
	}
	return v
}

func (m model) compare(o model) int {
	if len(m) != len(o) {
		if len(m) < len(o) {
			return -1
		}
		return 1
	}
	for i := len(m) - 1; i >= 0; i-- {
		if m[i] < o[i] {
			return -1
		}
		if m[i] > o[i] {
			return 1
		}
	}
	return 0
}

func (m model) plus(o model) model {
	var out model
	carry := byte(0)
	for i := 0; i < len(m) || i < len(o) || carry > 0; i++ {
		s := m.digit(i) + o.digit(i) + carry
		out, carry = append(out, s&1), s>>1
	}
	return trimModel(out)
}

// minus wants o not above m.
func (m model) minus(o model) model {
	var out model
	borrow := byte(0)
	for i := range m {
		s := 2 + m[i] - o.digit(i) - borrow
		out, borrow = append(out, s&1), 1-s>>1
	}
	return trimModel(out)
}

func (m model) left(n int) model {
	if len(m) == 0 {
		return nil
	}
	return append(make(model, n), m...)
}

func (m model) right(n int) model { return m[min(n, len(m)):] }

func (m model) low(n int) model { return trimModel(m[:min(n, len(m))]) }

func (m model) times(o model) model {
	var out model
	for i, d := range o {
		if d == 1 {
			out = out.plus(m.left(i))
		}
	}
	return out
}

func (m model) through(d model) (model, model) {
	quotient := make(model, len(m))
	var rest model
	for i := len(m) - 1; i >= 0; i-- {
		rest = trimModel(append(model{m[i]}, rest...))
		if rest.compare(d) >= 0 {
			rest, quotient[i] = rest.minus(d), 1
		}
	}
	return trimModel(quotient), rest
}

func (m model) with(o model, of func(x, y byte) byte) model {
	var out model
	for i := range max(len(m), len(o)) {
		out = append(out, of(m.digit(i), o.digit(i)))
	}
	return trimModel(out)
}

// mix draws numbers by a rule of its own: the same ones in every run.
type mix uint64

func (m *mix) next() uint64 {
	*m += 0x9e3779b97f4a7c15
	z := uint64(*m)
	z = (z ^ z>>30) * 0xbf58476d1ce4e5b9
	z = (z ^ z>>27) * 0x94d049bb133111eb
	return z ^ z>>31
}

// limb draws limbs at their ends as often as others.
func (m *mix) limb() uint64 {
	v := m.next()
	switch m.next() % 8 {
	case 0, 1:
		return 0
	case 2, 3:
		return ^uint64(0)
	case 4:
		return 1 << (v % 64)
	case 5:
		return 1<<(v%64) - 1
	}
	return v
}

func (m *mix) nat(limbs int) api.Nat {
	a := make(api.Nat, limbs)
	for i := range a {
		a[i] = m.limb()
	}
	return a
}

// samples are numbers at their ends and drawn ones, in all their shapes.
func samples() []api.Nat {
	const top = ^uint64(0)
	out := []api.Nat{
		nil, {}, {0}, {0, 0, 0}, {1}, {1, 0, 0}, {2}, {3}, {5}, {7, 0}, {24},
		{top}, {top, 0}, {top - 1}, {1 << 63}, {1<<63 - 1}, {1 << 32}, {1<<32 - 1},
		{0, 1}, {0, 1, 0}, {1, 1}, {top, 1}, {0, top}, {top, top}, {top, top, 0},
		{0, 0, 1}, {top, top, top}, {0, 1 << 63}, {0, 0, 1 << 63}, {top, 0, top}, {0, top, 0, 0},
	}
	m := mix(1)
	for i := range 40 {
		out = append(out, m.nat(1+i%5))
	}
	return out
}

// power is 2^n.
func power(n int) api.Nat {
	a := make(api.Nat, n/64+1)
	a[n/64] = 1 << (n % 64)
	return a
}

// ones is 2^n - 1: n bits, all of them 1.
func ones(n int) api.Nat {
	a := make(api.Nat, n/64+1)
	for i := range n / 64 {
		a[i] = ^uint64(0)
	}
	a[n/64] = 1<<(n%64) - 1
	return a
}

// wantNat asks for that number, in its normal shape.
func wantNat(t *testing.T, what string, got, want api.Nat) {
	t.Helper()
	for len(want) > 0 && want[len(want)-1] == 0 {
		want = want[:len(want)-1]
	}
	if !slices.Equal(got, want) {
		t.Errorf("%s: %v, not %v", what, short(got), short(want))
	}
}

// wantOK asks for that number, and for no error.
func wantOK(t *testing.T, what string, got api.Nat, e api.Errno, want api.Nat) {
	t.Helper()
	if e != api.OK {
		t.Errorf("%s: error %d", what, e)
		return
	}
	wantNat(t, what, got, want)
}

// wantErr asks for that error, and for nothing beside it.
func wantErr(t *testing.T, what string, got api.Nat, e, want api.Errno) {
	t.Helper()
	if e != want || len(got) != 0 {
		t.Errorf("%s: %v, error %d, not error %d alone", what, short(got), e, want)
	}
}

// short keeps a failure's text readable.
func short(a api.Nat) api.Nat { return a[:min(len(a), 8)] }
