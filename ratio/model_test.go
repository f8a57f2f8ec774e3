package ratio_test

import (
	"slices"
	"testing"

	"surd/api"
	"surd/div"
	"surd/mul"
	"surd/nat"
	"surd/ratio"
	"surd/whole"
)

// The model reckons with ints where it can be counted out, and else holds
// answers, multiplied out, against what they are to be by package whole. There
// is but one rational of a value in its normal shape; so value and shape are
// all that is asked for.

// mix draws numbers by a rule of its own: the same ones in every run.
type mix uint64

func (m *mix) next() uint64 {
	*m += 0x9e3779b97f4a7c15
	z := uint64(*m)
	z = (z ^ z>>30) * 0xbf58476d1ce4e5b9
	z = (z ^ z>>27) * 0x94d049bb133111eb
	return z ^ z>>31
}

// below draws a number from 0 to n - 1.
func (m *mix) below(n int) int { return int(m.next() % uint64(n)) }

// nat draws a number of so many limbs, many of them at their ends.
func (m *mix) nat(limbs int) api.Nat {
	a := make(api.Nat, limbs)
	for i := range a {
		a[i] = m.next()
		switch m.below(6) {
		case 0:
			a[i] = 0
		case 1:
			a[i] = ^uint64(0)
		case 2:
			a[i] = 1 << (a[i] % 64)
		}
	}
	return a
}

// full draws an odd number of just so many limbs.
func (m *mix) full(limbs int) api.Nat {
	a := make(api.Nat, limbs)
	for i := range a {
		a[i] = m.next() | 1
	}
	return a
}

// ratio draws a rational of up to so many limbs, in any shape.
func (m *mix) ratio(limbs int) api.Ratio {
	r := api.Ratio{Num: api.Whole{Neg: m.below(2) == 0, Abs: m.nat(m.below(limbs + 1))}, Den: m.nat(m.below(limbs))}
	r.Den = append(r.Den, 1+m.next()>>m.below(64))
	if m.below(3) == 0 {
		by := m.full(1 + m.below(2))
		r.Num.Abs, r.Den = times(r.Num.Abs, by), append(times(r.Den, by), 0)
	}
	return r
}

// times is a b.
func times(a, b api.Nat) api.Nat {
	p, e := mul.Mul(a, b)
	if e != api.OK {
		panic(e)
	}
	return p
}

// of is p / q, q above 0, as it stands there.
func of(p, q int) api.Ratio { return api.Ratio{Num: whole.Of(p), Den: nat.From(uint64(q))} }

// over is a size over a denominator.
func over(num, den api.Nat) api.Ratio { return api.Ratio{Num: above(num), Den: den} }

// minus is -r.
func minus(r api.Ratio) api.Ratio {
	r.Num.Neg = !r.Num.Neg
	return r
}

// above and below are a number of that size, and its negative.
func above(size api.Nat) api.Whole { return api.Whole{Abs: size} }

func below(size api.Nat) api.Whole { return api.Whole{Neg: true, Abs: size} }

// power is 2^n.
func power(n int) api.Nat {
	a := make(api.Nat, n/64+1)
	a[n/64] = 1 << (n % 64)
	return a
}

// ones is 2^n - 1: n bits, all of them 1.
func ones(n int) api.Nat {
	a := make(api.Nat, n/64+1)
	for i := range n / 64 {
		a[i] = ^uint64(0)
	}
	a[n/64] = 1<<(n%64) - 1
	return a
}

// samples are rationals at their ends and drawn ones, in all their shapes.
func samples() []api.Ratio {
	const top = ^uint64(0)
	out := []api.Ratio{
		over(nil, api.Nat{1}), over(api.Nat{0, 0}, api.Nat{7, 0}), minus(over(nil, api.Nat{2})), minus(over(api.Nat{0}, api.Nat{0, 1})),
		of(1, 1), of(-1, 1), of(1, 2), of(-1, 2), of(2, 4), of(-6, 4), of(7, 3), of(-355, 113), of(10, 5), of(1000, 1),
		over(api.Nat{top}, api.Nat{1}), over(api.Nat{1, 0}, api.Nat{top, 0, 0}), minus(over(api.Nat{top}, api.Nat{top - 1})),
		over(api.Nat{0, 1}, api.Nat{1}), minus(over(api.Nat{1}, api.Nat{0, 1})), over(api.Nat{0, 1}, api.Nat{0, 2, 0}), over(api.Nat{top, top}, api.Nat{0, 0, 1}),
		minus(over(api.Nat{top, top, top}, api.Nat{top, top})), over(api.Nat{0, 0, 12}, api.Nat{0, 18}), over(api.Nat{1 << 63}, api.Nat{1<<63 - 1}),
	}
	m := mix(1)
	for i := range 24 {
		out = append(out, m.ratio(1+i%5))
	}
	return append(out, m.ratio(20), m.ratio(40))
}

// small are all rationals p / q with small p and q, in lowest terms and not.
func small(p, q int) []api.Ratio {
	var out []api.Ratio
	for den := 1; den <= q; den++ {
		for num := -p; num <= p; num++ {
			out = append(out, of(num, den))
		}
	}
	return out
}

// isNormal: is it in its normal shape?
func isNormal(r api.Ratio) bool {
	n, d := len(r.Num.Abs), len(r.Den)
	switch {
	case d == 0 || r.Den[d-1] == 0:
		return false
	case n == 0:
		return !r.Num.Neg && d == 1 && r.Den[0] == 1
	}
	return r.Num.Abs[n-1] != 0 && nat.Length(div.Gcd(r.Num.Abs, r.Den)) == 1
}

// must is what a call answers, where it may not be refused.
func must[T any](t *testing.T) func(a T, e api.Errno) T {
	return func(a T, e api.Errno) T {
		t.Helper()
		if e != api.OK {
			t.Fatalf("error %d", e)
		}
		return a
	}
}

// isValue: is r the number num / den? It is multiplied out.
func isValue(t *testing.T, r api.Ratio, num api.Whole, den api.Nat) bool {
	t.Helper()
	reckon := must[api.Whole](t)
	return whole.Compare(reckon(whole.Mul(r.Num, above(den))), reckon(whole.Mul(num, above(r.Den)))) == 0
}

// wantValue asks for the number num / den, normal.
func wantValue(t *testing.T, what string, got api.Ratio, e api.Errno, num api.Whole, den api.Nat) {
	t.Helper()
	if e != api.OK {
		t.Errorf("%s: error %d", what, e)
		return
	}
	if !isNormal(got) {
		t.Errorf("%s: %v is not normal", what, short(got))
	}
	if !isValue(t, got, num, den) {
		t.Errorf("%s: %v, not %v", what, short(got), short(api.Ratio{Num: num, Den: den}))
	}
}

// wantRatio asks for the number that want means, normal.
func wantRatio(t *testing.T, what string, got api.Ratio, e api.Errno, want api.Ratio) {
	t.Helper()
	wantValue(t, what, got, e, want.Num, want.Den)
}

// wantLimbs asks for these very limbs: for numbers too great to be multiplied
// out.
func wantLimbs(t *testing.T, what string, got api.Ratio, e api.Errno, num api.Whole, den api.Nat) {
	t.Helper()
	num.Abs, den = nat.Norm(num.Abs), nat.Norm(den)
	if e != api.OK || got.Num.Neg != num.Neg || !slices.Equal(got.Num.Abs, num.Abs) || !slices.Equal(got.Den, den) {
		t.Errorf("%s: %v of %d and %d limbs, error %d", what, short(got), len(got.Num.Abs), len(got.Den), e)
	}
}

// wantErr asks for that error, and for nothing beside it.
func wantErr(t *testing.T, what string, e, want api.Errno, got ...api.Ratio) {
	t.Helper()
	if e != want {
		t.Errorf("%s: error %d, not %d", what, e, want)
	}
	for _, r := range got {
		if r.Num.Neg || len(r.Num.Abs) != 0 || len(r.Den) != 0 {
			t.Errorf("%s: %v beside error %d", what, short(r), e)
		}
	}
}

// short keeps a failure's text readable.
func short(r api.Ratio) api.Ratio {
	return api.Ratio{
		Num: api.Whole{Neg: r.Num.Neg, Abs: r.Num.Abs[:min(len(r.Num.Abs), 6)]},
		Den: r.Den[:min(len(r.Den), 6)],
	}
}

// nothings are rationals that mean nothing.
func nothings() []api.Ratio {
	return []api.Ratio{{}, over(api.Nat{5}, nil), over(nil, api.Nat{0}), minus(over(api.Nat{1, 2}, api.Nat{0, 0, 0})), over(power(api.MaxBits), api.Nat{})}
}

// R2, R5: a rational that means nothing is ErrRatioZero ahead of all else, as
// any argument.
func TestRatiosThatMeanNothing(t *testing.T) {
	one := ratio.Int(1)
	for _, r := range nothings() {
		for name, call := range map[string]func(r api.Ratio) (api.Ratio, api.Errno){
			"Norm": ratio.Norm, "Neg": ratio.Neg, "Abs": ratio.Abs,
			"Add":  func(r api.Ratio) (api.Ratio, api.Errno) { return ratio.Add(r, one) },
			"Add'": func(r api.Ratio) (api.Ratio, api.Errno) { return ratio.Add(one, r) },
			"Sub":  func(r api.Ratio) (api.Ratio, api.Errno) { return ratio.Sub(r, one) },
			"Sub'": func(r api.Ratio) (api.Ratio, api.Errno) { return ratio.Sub(one, r) },
			"Mul":  func(r api.Ratio) (api.Ratio, api.Errno) { return ratio.Mul(r, of(0, 1)) },
			"Mul'": func(r api.Ratio) (api.Ratio, api.Errno) { return ratio.Mul(of(0, 1), r) },
			"Quo":  func(r api.Ratio) (api.Ratio, api.Errno) { return ratio.Quo(r, one) },
			"Quo'": func(r api.Ratio) (api.Ratio, api.Errno) { return ratio.Quo(one, r) },
			"Simplest": func(r api.Ratio) (api.Ratio, api.Errno) {
				return ratio.Simplest(r, of(-1, 1))
			},
			"Simplest'": func(r api.Ratio) (api.Ratio, api.Errno) { return ratio.Simplest(one, r) },
			"Best":      func(r api.Ratio) (api.Ratio, api.Errno) { return ratio.Best(r, nil) },
		} {
			got, e := call(r)
			wantErr(t, name, e, api.ErrRatioZero, got)
		}
		low, high, e := ratio.Neighbours(r, nil)
		wantErr(t, "Neighbours", e, api.ErrRatioZero, low, high)
		n, e := ratio.Sign(r)
		wantErr(t, "Sign", e, api.ErrRatioZero)
		order, f := ratio.Compare(r, one)
		wantErr(t, "Compare", f, api.ErrRatioZero)
		order2, f := ratio.Compare(one, r)
		wantErr(t, "Compare", f, api.ErrRatioZero)
		if n != 0 || order != 0 || order2 != 0 {
			t.Errorf("%d, %d and %d beside an error", n, order, order2)
		}
		w, e := ratio.At(r, 1<<41, 5)
		wantErr(t, "At", e, api.ErrRatioZero, over(w.Abs, nil))
		text, e := ratio.Print(r)
		wantErr(t, "Print", e, api.ErrRatioZero)
		l, f := ratio.Chain(r)
		wantErr(t, "Chain", f, api.ErrRatioZero)
		if text != "" || len(l) != 0 {
			t.Errorf("%q and %v beside an error", text, l)
		}
	}
}
