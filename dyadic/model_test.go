package dyadic_test

import (
	"slices"
	"testing"

	"surd/api"
	"surd/dyadic"
	"surd/nat"
	"surd/whole"
)

// The model reckons with ints where it can be counted out, and else lays all
// numbers on one position that is low enough for them, where they are whole
// numbers: package whole says then what sums, products and steps are. There is
// but one dyadic of a value in its normal shape; so value and shape are all
// that is asked for.

// far is the farthest exponent.
const far = api.MaxExp

// mix draws numbers by a rule of its own: the same ones in every run.
type mix uint64

func (m *mix) next() uint64 {
	*m += 0x9e3779b97f4a7c15
	z := uint64(*m)
	z = (z ^ z>>30) * 0xbf58476d1ce4e5b9
	z = (z ^ z>>27) * 0x94d049bb133111eb
	return z ^ z>>31
}

// below draws a number from 0 to n - 1.
func (m *mix) below(n int) int { return int(m.next() % uint64(n)) }

// nat draws a number of so many limbs, many of them at their ends.
func (m *mix) nat(limbs int) api.Nat {
	a := make(api.Nat, limbs)
	for i := range a {
		a[i] = m.next()
		switch m.below(6) {
		case 0:
			a[i] = 0
		case 1:
			a[i] = ^uint64(0)
		case 2:
			a[i] = 1 << (a[i] % 64)
		case 3:
			a[i] <<= a[i] % 64
		}
	}
	return a
}

// dyadic draws a number of up to so many limbs, in any shape, with an exponent
// that is not above so many limbs' bits.
func (m *mix) dyadic(limbs int) api.Dyadic {
	return api.Dyadic{
		Man: api.Whole{Neg: m.below(2) == 0, Abs: m.nat(m.below(limbs + 1))},
		Exp: m.below(128*limbs+1) - 64*limbs,
	}
}

// of is m times 2^e, as it stands there.
func of(m, e int) api.Dyadic { return api.Dyadic{Man: whole.Of(m), Exp: e} }

// above and below are a size times 2^e, and its negative.
func above(size api.Nat, e int) api.Dyadic { return api.Dyadic{Man: api.Whole{Abs: size}, Exp: e} }

func below(size api.Nat, e int) api.Dyadic {
	return api.Dyadic{Man: api.Whole{Neg: true, Abs: size}, Exp: e}
}

// minus is -a.
func minus(a api.Dyadic) api.Dyadic {
	a.Man.Neg = !a.Man.Neg
	return a
}

// power is 2^n.
func power(n int) api.Nat {
	a := make(api.Nat, n/64+1)
	a[n/64] = 1 << (n % 64)
	return a
}

// powerAnd is 2^n + v, v being less than 2^64 and n at least 64.
func powerAnd(n int, v uint64) api.Nat {
	a := power(n)
	a[0] |= v
	return a
}

// ones is 2^n - 1: n bits, all of them 1.
func ones(n int) api.Nat {
	a := make(api.Nat, n/64+1)
	for i := range n / 64 {
		a[i] = ^uint64(0)
	}
	a[n/64] = 1<<(n%64) - 1
	return a
}

// samples are numbers at their ends and drawn ones, in all their shapes.
func samples() []api.Dyadic {
	const top = ^uint64(0)
	out := []api.Dyadic{
		{}, above(nil, 7), below(api.Nat{0, 0}, -9), of(0, 300),
		of(1, 0), of(-1, 0), of(1, -1), of(-1, 1), of(3, -1), of(-5, -3), of(12, -3), of(-12, 2), of(1, 200), of(-1, -200),
		above(api.Nat{top}, 0), below(api.Nat{top, 0}, -64), above(api.Nat{0, 1}, -64), above(api.Nat{0, 1, 0}, 3), below(api.Nat{0, 0, 12}, -130),
		above(api.Nat{top, top}, -128), below(api.Nat{top, top, top}, -60), above(api.Nat{1 << 63}, -63), above(api.Nat{1, 1}, -1), below(api.Nat{1, 0, 1 << 63}, 64),
		above(ones(200), -100), below(power(200), -100), above(powerAnd(200, 1), -200),
	}
	m := mix(1)
	for i := range 24 {
		out = append(out, m.dyadic(1+i%4))
	}
	return append(out, m.dyadic(20), m.dyadic(40))
}

// modes are all directions.
func modes() []api.Mode { return []api.Mode{api.Down, api.Up, api.Near} }

// must is what a call answers, where it may not be refused.
func must[T any](t *testing.T) func(a T, e api.Errno) T {
	return func(a T, e api.Errno) T {
		t.Helper()
		if e != api.OK {
			t.Fatalf("error %d", e)
		}
		return a
	}
}

// laid is a number counted in steps of 2^unit, which is not above its exponent.
func laid(t *testing.T, a api.Dyadic, unit int) api.Whole {
	t.Helper()
	if a.Exp < unit {
		t.Fatalf("an exponent of %d below %d", a.Exp, unit)
	}
	return must[api.Whole](t)(whole.Shift(a.Man, a.Exp-unit))
}

// canonical is the same number in its normal shape.
func canonical(a api.Dyadic) api.Dyadic {
	size := nat.Norm(a.Man.Abs)
	if len(size) == 0 {
		return api.Dyadic{}
	}
	tail := nat.Tail(size)
	size, e := nat.Right(size, tail)
	if e != api.OK {
		panic(e)
	}
	return api.Dyadic{Man: api.Whole{Neg: a.Man.Neg, Abs: size}, Exp: a.Exp + tail}
}

// same: are they the same limbs, signs and exponents?
func same(a, b api.Dyadic) bool {
	return a.Exp == b.Exp && a.Man.Neg == b.Man.Neg && slices.Equal(a.Man.Abs, b.Man.Abs)
}

// want asks for the number that wanted means, normal.
func want(t *testing.T, what string, got api.Dyadic, e api.Errno, wanted api.Dyadic) {
	t.Helper()
	if wanted = canonical(wanted); e != api.OK || !same(got, wanted) {
		t.Errorf("%s: %v of %d limbs, error %d; not %v of %d limbs", what, short(got), len(got.Man.Abs), e, short(wanted), len(wanted.Man.Abs))
	}
}

// wantErr asks for that error, and for nothing beside it.
func wantErr(t *testing.T, what string, got api.Dyadic, e, wanted api.Errno) {
	t.Helper()
	if e != wanted || !same(got, api.Dyadic{}) {
		t.Errorf("%s: %v, error %d; not error %d", what, short(got), e, wanted)
	}
}

// wantInt asks for an int.
func wantInt(t *testing.T, what string, got int, e api.Errno, wanted int) {
	t.Helper()
	if e != api.OK || got != wanted {
		t.Errorf("%s: %d, error %d; not %d", what, got, e, wanted)
	}
}

// wantNoInt asks for an error, and nothing beside it.
func wantNoInt(t *testing.T, what string, got int, e, wanted api.Errno) {
	t.Helper()
	if e != wanted || got != 0 {
		t.Errorf("%s: %d, error %d; not error %d", what, got, e, wanted)
	}
}

// wantWhole asks for that whole number, normal.
func wantWhole(t *testing.T, what string, got api.Whole, e api.Errno, wanted api.Whole) {
	t.Helper()
	size := nat.Norm(wanted.Abs)
	if e != api.OK || got.Neg != (wanted.Neg && len(size) > 0) || !slices.Equal(got.Abs, size) {
		t.Errorf("%s: %v of %d limbs, error %d", what, got.Abs[:min(len(got.Abs), 6)], len(got.Abs), e)
	}
}

// short keeps a failure's text readable.
func short(a api.Dyadic) api.Dyadic {
	a.Man.Abs = a.Man.Abs[:min(len(a.Man.Abs), 6)]
	return a
}

// nothings are dyadics that mean nothing.
func nothings() []api.Dyadic {
	var out []api.Dyadic
	for _, e := range []int{far + 1, -far - 1, 1<<63 - 1, -1 << 63} {
		out = append(out, of(1, e), of(0, e), of(-6, e), above(power(api.MaxBits), e))
	}
	return out
}

// R2: a dyadic that means nothing is ErrDyadicExp ahead of all else, as any
// argument.
func TestDyadicsThatMeanNothing(t *testing.T) {
	one := of(1, 0)
	big := above(powerAnd(api.MaxBits, 1), 0)
	for _, a := range nothings() {
		for name, call := range map[string]func() (api.Dyadic, api.Errno){
			"Neg":     func() (api.Dyadic, api.Errno) { return dyadic.Neg(a) },
			"Abs":     func() (api.Dyadic, api.Errno) { return dyadic.Abs(a) },
			"Add":     func() (api.Dyadic, api.Errno) { return dyadic.Add(a, big) },
			"Add'":    func() (api.Dyadic, api.Errno) { return dyadic.Add(big, a) },
			"Sub":     func() (api.Dyadic, api.Errno) { return dyadic.Sub(a, one) },
			"Sub'":    func() (api.Dyadic, api.Errno) { return dyadic.Sub(one, a) },
			"Mul":     func() (api.Dyadic, api.Errno) { return dyadic.Mul(a, of(0, 0)) },
			"Mul'":    func() (api.Dyadic, api.Errno) { return dyadic.Mul(of(0, 0), a) },
			"Pow":     func() (api.Dyadic, api.Errno) { return dyadic.Pow(a, -1) },
			"Pow'":    func() (api.Dyadic, api.Errno) { return dyadic.Pow(a, 0) },
			"Scale":   func() (api.Dyadic, api.Errno) { return dyadic.Scale(a, 1<<41) },
			"Scale'":  func() (api.Dyadic, api.Errno) { return dyadic.Scale(a, -1) },
			"Round":   func() (api.Dyadic, api.Errno) { return dyadic.Round(a, 1<<41, 7) },
			"Cut":     func() (api.Dyadic, api.Errno) { return dyadic.Cut(a, 0, 7) },
			"Min":     func() (api.Dyadic, api.Errno) { return dyadic.Min(a, one) },
			"Min'":    func() (api.Dyadic, api.Errno) { return dyadic.Min(one, a) },
			"Max":     func() (api.Dyadic, api.Errno) { return dyadic.Max(a, one) },
			"Max'":    func() (api.Dyadic, api.Errno) { return dyadic.Max(one, a) },
			"Middle":  func() (api.Dyadic, api.Errno) { return dyadic.Middle(a, one) },
			"Middle'": func() (api.Dyadic, api.Errno) { return dyadic.Middle(one, a) },
			"Sum":     func() (api.Dyadic, api.Errno) { return dyadic.Sum(big, one, a) },
			"Dot":     func() (api.Dyadic, api.Errno) { return dyadic.Dot([]api.Dyadic{big, a}, nil) },
			"Dot'":    func() (api.Dyadic, api.Errno) { return dyadic.Dot(nil, []api.Dyadic{big, a}) },
			"Value":   func() (api.Dyadic, api.Errno) { return dyadic.Value([]api.Dyadic{one, big, a}, one) },
			"Value'":  func() (api.Dyadic, api.Errno) { return dyadic.Value([]api.Dyadic{big}, a) },
			"Value''": func() (api.Dyadic, api.Errno) { return dyadic.Value(nil, a) },
		} {
			got, e := call()
			wantErr(t, name, got, e, api.ErrDyadicExp)
		}
		n, e := dyadic.Compare(a, one)
		wantNoInt(t, "Compare", n, e, api.ErrDyadicExp)
		n, e = dyadic.Compare(one, a)
		wantNoInt(t, "Compare'", n, e, api.ErrDyadicExp)
		n, e = dyadic.Top(a)
		wantNoInt(t, "Top", n, e, api.ErrDyadicExp)
		n, e = dyadic.Length(a)
		wantNoInt(t, "Length", n, e, api.ErrDyadicExp)
		w, e := dyadic.Whole(a, 7)
		wantErr(t, "Whole", api.Dyadic{Man: w}, e, api.ErrDyadicExp)
		r, e := dyadic.Ratio(a)
		wantErr(t, "Ratio", api.Dyadic{Man: r.Num, Exp: len(r.Den)}, e, api.ErrDyadicExp)
		s, e := dyadic.Print(a)
		wantNoInt(t, "Print", len(s), e, api.ErrDyadicExp)
		s, e = dyadic.Hex(a)
		wantNoInt(t, "Hex", len(s), e, api.ErrDyadicExp)
		if dyadic.Sign(a) != whole.Sign(a.Man) {
			t.Errorf("Sign of %v: %d", short(a), dyadic.Sign(a))
		}
	}
}
