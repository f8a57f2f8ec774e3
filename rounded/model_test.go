package rounded_test

import (
	"slices"
	"testing"

	"surd/api"
	"surd/dyadic"
	"surd/nat"
	"surd/whole"
)

// The model counts in ints where it can be counted out. Else it divides whole
// numbers that are laid on one position (package whole), finds roots bit by bit
// from squares (package dyadic), and takes powers as products. There is but one
// dyadic of a value in its normal shape; so value and shape are all that is
// asked for.

// far is the farthest exponent.
const far = api.MaxExp

// mix draws numbers by a rule of its own: the same ones in every run.
type mix uint64

func (m *mix) next() uint64 {
	*m += 0x9e3779b97f4a7c15
	z := uint64(*m)
	z = (z ^ z>>30) * 0xbf58476d1ce4e5b9
	z = (z ^ z>>27) * 0x94d049bb133111eb
	return z ^ z>>31
}

// below draws a number from 0 to n - 1.
func (m *mix) below(n int) int { return int(m.next() % uint64(n)) }

// nat draws a number of so many limbs, many of them at their ends.
func (m *mix) nat(limbs int) api.Nat {
	a := make(api.Nat, limbs)
	for i := range a {
		a[i] = m.next()
		switch m.below(6) {
		case 0:
			a[i] = 0
		case 1:
			a[i] = ^uint64(0)
		case 2:
			a[i] = 1 << (a[i] % 64)
		case 3:
			a[i] <<= a[i] % 64
		}
	}
	return a
}

// dyadic draws a number of up to so many limbs, in any shape, with an exponent
// that is not above so many limbs' bits.
func (m *mix) dyadic(limbs int) api.Dyadic {
	return api.Dyadic{
		Man: api.Whole{Neg: m.below(2) == 0, Abs: m.nat(m.below(limbs + 1))},
		Exp: m.below(128*limbs+1) - 64*limbs,
	}
}

// divisor draws such a number that is not 0.
func (m *mix) divisor(limbs int) api.Dyadic {
	a := m.dyadic(limbs)
	a.Man.Abs = append(a.Man.Abs, 1+m.next()>>m.below(64))
	return a
}

// of is m times 2^e, as it stands there.
func of(m, e int) api.Dyadic { return api.Dyadic{Man: whole.Of(m), Exp: e} }

// above and below are a size times 2^e, and its negative.
func above(size api.Nat, e int) api.Dyadic { return api.Dyadic{Man: api.Whole{Abs: size}, Exp: e} }

func below(size api.Nat, e int) api.Dyadic { return minus(above(size, e)) }

// minus is -a.
func minus(a api.Dyadic) api.Dyadic {
	a.Man.Neg = !a.Man.Neg
	return a
}

// size is a without its sign.
func size(a api.Dyadic) api.Dyadic {
	a.Man.Neg = false
	return a
}

// over is p / q, as it stands there.
func over(p, q int) api.Ratio { return api.Ratio{Num: whole.Of(p), Den: nat.From(uint64(q))} }

// power is 2^n.
func power(n int) api.Nat {
	a := make(api.Nat, n/64+1)
	a[n/64] = 1 << (n % 64)
	return a
}

// powerAnd is 2^n + v, v being less than 2^64 and n at least 64.
func powerAnd(n int, v uint64) api.Nat {
	a := power(n)
	a[0] |= v
	return a
}

// ones is 2^n - 1: n bits, all of them 1.
func ones(n int) api.Nat {
	a := make(api.Nat, n/64+1)
	for i := range n / 64 {
		a[i] = ^uint64(0)
	}
	a[n/64] = 1<<(n%64) - 1
	return a
}

// samples are numbers at their ends and drawn ones, in all their shapes.
func samples() []api.Dyadic {
	const top = ^uint64(0)
	out := []api.Dyadic{
		{}, above(nil, 7), below(api.Nat{0, 0}, -9), of(0, 300),
		of(1, 0), of(-1, 0), of(1, -1), of(-1, 1), of(3, -1), of(-5, -3), of(12, -3), of(-12, 2), of(1, 200), of(-1, -200),
		above(api.Nat{top}, 0), below(api.Nat{top, 0}, -64), above(api.Nat{0, 1}, -64), above(api.Nat{0, 1, 0}, 3), below(api.Nat{0, 0, 12}, -130),
		above(api.Nat{top, top}, -128), above(api.Nat{1 << 63}, -63), above(api.Nat{1, 1}, -1), below(api.Nat{1, 0, 1 << 63}, 64),
		above(ones(200), -100), below(power(200), -100), above(powerAnd(200, 1), -200),
	}
	m := mix(1)
	for i := range 16 {
		out = append(out, m.dyadic(1+i%4))
	}
	return append(out, m.dyadic(12))
}

// modes are all directions.
func modes() []api.Mode { return []api.Mode{api.Down, api.Up, api.Near} }

// must is what a call answers, where it may not be refused.
func must[T any](t *testing.T) func(a T, e api.Errno) T {
	return func(a T, e api.Errno) T {
		t.Helper()
		if e != api.OK {
			t.Fatalf("error %d", e)
		}
		return a
	}
}

// laid is a number counted in steps of 2^unit, which is not above its exponent.
func laid(t *testing.T, a api.Dyadic, unit int) api.Whole {
	t.Helper()
	if a.Exp < unit {
		t.Fatalf("an exponent of %d below %d", a.Exp, unit)
	}
	return must[api.Whole](t)(whole.Shift(a.Man, a.Exp-unit))
}

// compare is -1, 0 or 1.
func compare(t *testing.T, a, b api.Dyadic) int {
	t.Helper()
	return must[int](t)(dyadic.Compare(a, b))
}

// times is a b.
func times(t *testing.T, a, b api.Dyadic) api.Dyadic {
	t.Helper()
	return must[api.Dyadic](t)(dyadic.Mul(a, b))
}

// plus is a + b.
func plus(t *testing.T, a, b api.Dyadic) api.Dyadic {
	t.Helper()
	return must[api.Dyadic](t)(dyadic.Add(a, b))
}

// canonical is the same number in its normal shape.
func canonical(a api.Dyadic) api.Dyadic {
	size := nat.Norm(a.Man.Abs)
	if len(size) == 0 {
		return api.Dyadic{}
	}
	tail := nat.Tail(size)
	size, e := nat.Right(size, tail)
	if e != api.OK {
		panic(e)
	}
	return api.Dyadic{Man: api.Whole{Neg: a.Man.Neg, Abs: size}, Exp: a.Exp + tail}
}

// same: are they the same limbs, signs and exponents?
func same(a, b api.Dyadic) bool {
	return a.Exp == b.Exp && a.Man.Neg == b.Man.Neg && slices.Equal(a.Man.Abs, b.Man.Abs)
}

// want asks for the number that wanted means, normal.
func want(t *testing.T, what string, got api.Dyadic, e api.Errno, wanted api.Dyadic) {
	t.Helper()
	if wanted = canonical(wanted); e != api.OK || !same(got, wanted) {
		t.Errorf("%s: %v of %d limbs, error %d; not %v of %d limbs", what, short(got), len(got.Man.Abs), e, short(wanted), len(wanted.Man.Abs))
	}
}

// wantErr asks for that error, and for nothing beside it.
func wantErr(t *testing.T, what string, got api.Dyadic, e, wanted api.Errno) {
	t.Helper()
	if e != wanted || !same(got, api.Dyadic{}) {
		t.Errorf("%s: %v, error %d; not error %d", what, short(got), e, wanted)
	}
}

// short keeps a failure's text readable.
func short(a api.Dyadic) api.Dyadic {
	a.Man.Abs = a.Man.Abs[:min(len(a.Man.Abs), 6)]
	return a
}

// row is what a call should answer in each direction: a number, or an error.
type row struct {
	down, up, near api.Dyadic
	e              [3]api.Errno
}

// wantRow asks for a row.
func wantRow(t *testing.T, what string, wanted row, call func(mode api.Mode) (api.Dyadic, api.Errno)) {
	t.Helper()
	for i, d := range []api.Dyadic{wanted.down, wanted.up, wanted.near} {
		got, e := call(modes()[i])
		what := what + []string{", Down", ", Up", ", Near"}[i]
		if wanted.e[i] != api.OK {
			wantErr(t, what, got, e, wanted.e[i])
			continue
		}
		want(t, what, got, e, d)
	}
}

// exactly is the row of what is at the position already.
func exactly(a api.Dyadic) row { return row{down: a, up: a, near: a} }

// refused is the row of an error in all directions.
func refused(e api.Errno) row { return row{e: [3]api.Errno{e, e, e}} }
