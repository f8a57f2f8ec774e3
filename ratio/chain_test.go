package ratio_test

import (
	"slices"
	"testing"

	"surd/api"
	"surd/mul"
	"surd/ratio"
	"surd/whole"
)

// list is ints as numbers.
func list(l ...int) []api.Whole {
	var out []api.Whole
	for _, n := range l {
		out = append(out, whole.Of(n))
	}
	return out
}

// naturals are sizes as numbers.
func naturals(l ...api.Nat) []api.Whole {
	var out []api.Whole
	for _, n := range l {
		out = append(out, above(n))
	}
	return out
}

// wantChain asks for a list of numbers, each normal.
func wantChain(t *testing.T, what string, r api.Ratio, want []api.Whole) {
	t.Helper()
	got, e := ratio.Chain(r)
	if e != api.OK || len(got) != len(want) {
		t.Errorf("%s: Chain of %v is %d long, not %d, error %d", what, short(r), len(got), len(want), e)
		return
	}
	for i, a := range got {
		wantWhole(t, what, a, api.OK, want[i])
	}
}

// modelChain divides step by step.
func modelChain(t *testing.T, r api.Ratio) []api.Whole {
	t.Helper()
	var out []api.Whole
	num, den := r.Num, above(r.Den)
	for {
		q, rest, e := whole.Floor(num, den)
		if e != api.OK {
			t.Fatalf("error %d", e)
		}
		out = append(out, q)
		if whole.Sign(rest) == 0 {
			return out
		}
		num, den = den, rest
	}
}

// modelUnchain goes from the end by sums and quotients.
func modelUnchain(l []api.Whole) (api.Ratio, api.Errno) {
	v := api.Ratio{Num: l[len(l)-1], Den: api.Nat{1}}
	for i := len(l) - 2; i >= 0; i-- {
		w, e := ratio.Quo(of(1, 1), v)
		if e != api.OK {
			return api.Ratio{}, e
		}
		v, e = ratio.Add(api.Ratio{Num: l[i], Den: api.Nat{1}}, w)
		if e != api.OK {
			return api.Ratio{}, e
		}
	}
	return v, api.OK
}

// wantUnchain asks for what the model says.
func wantUnchain(t *testing.T, l []api.Whole) {
	t.Helper()
	want, refused := modelUnchain(l)
	got, e := ratio.Unchain(l...)
	if refused != api.OK {
		wantErr(t, "Unchain", e, refused, got)
		return
	}
	wantRatio(t, "Unchain", got, e, want)
}

// The chapter's example 4.
func TestExamplesOfChains(t *testing.T) {
	wantChain(t, "415/93", of(415, 93), list(4, 2, 6, 7))
	wantChain(t, "-1/2", of(-1, 2), list(-1, 2))
	wantChain(t, "0", of(0, 1), list(0))
	wantChain(t, "-0", minus(over(api.Nat{0, 0}, api.Nat{6, 0})), list(0))
	wantChain(t, "5", of(10, 2), list(5))
	wantChain(t, "-5", of(-10, 2), list(-5))
	r, e := ratio.Unchain(list(3, 7, 16)...)
	wantLimbs(t, "Unchain(3, 7, 16)", r, e, whole.Of(355), api.Nat{113})
	r, e = ratio.Unchain(list(1, 0)...)
	wantErr(t, "Unchain(1, 0)", e, api.ErrRatioZero, r)
}

// P7.4: all small rationals.
func TestChainOfInts(t *testing.T) {
	for p := -60; p <= 60; p++ {
		for q := 1; q <= 40; q++ {
			var want []int
			num, den := p, q
			for den > 0 {
				down := rounded(num, den, api.Down)
				want = append(want, down)
				num, den = den, num-down*den
			}
			wantChain(t, "a small one", of(p, q), list(want...))
		}
	}
}

// P7.4: samples, step by step; and what the numbers are to be like.
func TestChain(t *testing.T) {
	m := mix(9)
	some := samples()
	for i := range 60 {
		some = append(some, m.ratio(1+i), over(m.full(i+1), m.full(i+2)), over(m.full(2*i+1), m.full(i+1)), over(m.nat(i), m.full(3*i+1)))
	}
	for _, r := range append(some, over(m.full(301), m.full(300))) {
		want := modelChain(t, r)
		wantChain(t, "a sample", r, want)
		for i, a := range want[1:] {
			if whole.Sign(a) <= 0 || i == len(want)-2 && whole.Compare(a, whole.Of(1)) == 0 {
				t.Errorf("Chain of %v: number %d is %v", short(r), i+1, a)
			}
		}
	}
}

// quotients draws numbers of a continued fraction: mostly little ones, some of
// a limb, few of many.
func (m *mix) quotients(n int) []api.Whole {
	out := []api.Whole{{Neg: m.below(2) == 0, Abs: m.full(1)}}
	for range n {
		q := api.Nat{1 + m.next()>>(1+m.below(63))}
		switch m.below(12) {
		case 0:
			q = m.full(1 + m.below(6))
		case 1, 2, 3, 4:
			q = api.Nat{1}
		}
		out = append(out, above(q))
	}
	return append(out, above(api.Nat{2 + m.next()>>(1+m.below(63))}))
}

// P7.4, P7.7: quotients of all lengths; Chain tells the very ones, also where
// the terms have divisors in common.
func TestChainByQuotients(t *testing.T) {
	m := mix(10)
	for i := range 300 {
		l := m.quotients(m.below(1 + i))
		r, e := ratio.Unchain(l...)
		if e != api.OK || !isNormal(r) {
			t.Fatalf("Unchain: %v, error %d", short(r), e)
		}
		if i < 100 {
			wantUnchain(t, l)
		}
		wantChain(t, "quotients", r, l)
		by := m.full(1 + i%20)
		wantChain(t, "quotients, not in lowest terms", api.Ratio{Num: api.Whole{Neg: r.Num.Neg, Abs: append(times(r.Num.Abs, by), 0)}, Den: times(r.Den, by)}, l)
	}
}

// P7.4: Fibonacci's numbers have the longest chains, those of ones alone.
func TestChainByIndex(t *testing.T) {
	for _, n := range []int{3, 4, 92, 93, 94, 95, 186, 187, 1000, 20000} {
		f := must[api.Nat](t)(mul.Fibonacci(n))
		g := must[api.Nat](t)(mul.Fibonacci(n - 1))
		want := append(list(slices.Repeat([]int{1}, n-3)...), whole.Of(2))
		wantChain(t, "Fibonacci's", over(f, g), want)
		r, e := ratio.Unchain(want...)
		wantLimbs(t, "Fibonacci's", r, e, above(f), g)
	}
	wantChain(t, "2^n / (2^m - 1)", over(power(5000), ones(1000)), modelChain(t, over(power(5000), ones(1000))))
	wantChain(t, "(2^n - 1) / (2^m - 1)", over(ones(7001), ones(3000)), modelChain(t, over(ones(7001), ones(3000))))
}

// P7.7: Unchain undoes Chain.
func TestUnchainUndoesChain(t *testing.T) {
	m := mix(11)
	some := append(samples(), small(15, 15)...)
	for _, r := range append(some, over(m.full(3000), m.full(2990)), minus(over(m.full(2000), m.full(4000)))) {
		l := must[[]api.Whole](t)(ratio.Chain(r))
		got, e := ratio.Unchain(l...)
		wantRatio(t, "Unchain of Chain", got, e, r)
	}
}

// P7.4: all short lists of small numbers, 0 and those below it among them.
func TestUnchainOfInts(t *testing.T) {
	var grow func(l []int)
	grow = func(l []int) {
		if len(l) > 0 {
			wantUnchain(t, list(l...))
		}
		if len(l) == 5 {
			return
		}
		for v := -2; v <= 2; v++ {
			grow(append(slices.Clone(l), v))
		}
	}
	grow(nil)
}

// P7.4: drawn lists of all signs and shapes; so long as 0 comes up, or not.
func TestUnchain(t *testing.T) {
	m := mix(12)
	for i := range 400 {
		l := m.quotients(m.below(20))
		for j := range l {
			l[j].Neg = m.below(2) == 0
			if m.below(8) == 0 {
				l[j].Abs = api.Nat{0, 0}[:m.below(3)]
			}
			if m.below(8) == 0 {
				l[j].Abs = append(l[j].Abs, 0, 0)
			}
		}
		wantUnchain(t, l)
		if i%2 == 0 {
			// What undoes the list from its end makes a 0 in the midst of it.
			back, e := modelUnchain(l)
			if e == api.OK && whole.Sign(back.Num) != 0 {
				undone := append(l, whole.Of(0))
				chain := must[[]api.Whole](t)(ratio.Chain(minus(back)))
				wantUnchain(t, append(append(list(3), chain...), undone...))
			}
		}
	}
}

// P7.4: of none it is ErrArg.
func TestUnchainOfNone(t *testing.T) {
	r, e := ratio.Unchain()
	wantErr(t, "Unchain of none", e, api.ErrArg, r)
	r, e = ratio.Unchain([]api.Whole{}...)
	wantErr(t, "Unchain of an empty list", e, api.ErrArg, r)
}

// P7.4, R6: Chain's numbers at the limit, and rationals beyond it.
func TestChainAtTheLimit(t *testing.T) {
	const n = api.MaxBits
	full, one := ones(n), api.Nat{1}
	wantChain(t, "full", over(full, one), naturals(full))
	wantChain(t, "-full", minus(over(full, one)), []api.Whole{below(full)})
	wantChain(t, "1 / full", over(one, full), naturals(nil, full))
	wantChain(t, "full / 2^n", over(full, power(n)), naturals(nil, one, full))
	wantChain(t, "-1 / 2^n", minus(over(one, power(n))), append(list(-1, 1), above(full)))
	odd := ones(n + 1)
	odd[0] -= 2 // 2 full - 1
	wantChain(t, "1/2 - full", minus(over(odd, api.Nat{2})), append([]api.Whole{below(full)}, whole.Of(2)))
	noughts := make(api.Nat, n/64+1)
	wantChain(t, "terms beyond the limit", over(append(noughts, 415), append(noughts, 93)), list(4, 2, 6, 7))
	wantChain(t, "full + 2^-64", over(append(api.Nat{1}, full...), power(64)), naturals(full, power(64)))
	for _, r := range []api.Ratio{
		over(power(n), one), minus(over(power(n), one)), over(one, power(n)), over(ones(n+1), power(n+1)), minus(over(one, ones(n+1))), over(ones(3*n), api.Nat{2}), minus(over(ones(n+1), api.Nat{2})),
	} {
		l, e := ratio.Chain(r)
		wantErr(t, "Chain", e, api.ErrBig)
		if len(l) > 0 {
			t.Errorf("%d numbers beside an error", len(l))
		}
	}
}

// P7.4, R6: Unchain's terms at the limit, and lists of what is beyond it. A
// division by 0 is told ahead of that.
func TestUnchainAtTheLimit(t *testing.T) {
	const n = api.MaxBits
	full, past, one := ones(n), power(n+1), api.Nat{1}
	r, e := ratio.Unchain(above(full))
	wantLimbs(t, "full", r, e, above(full), one)
	r, e = ratio.Unchain(whole.Of(0), above(full))
	wantLimbs(t, "1 / full", r, e, above(one), full)
	r, e = ratio.Unchain(whole.Of(-1), above(power(n-1)))
	wantLimbs(t, "-1 and a little", r, e, below(ones(n-1)), power(n-1))
	r, e = ratio.Unchain(above(past), whole.Of(0), below(past))
	wantLimbs(t, "0", r, e, api.Whole{}, one)
	r, e = ratio.Unchain(above(past), whole.Of(0), above(one), whole.Of(0), below(past))
	wantLimbs(t, "1", r, e, above(one), one)
	for _, l := range [][]api.Whole{{below(past)}, {whole.Of(1), above(full)}, {above(past), whole.Of(3)}, {whole.Of(0), above(past)}, {whole.Of(2), below(past), whole.Of(0), whole.Of(-1)}} {
		r, e = ratio.Unchain(l...)
		wantErr(t, "what is too great", e, api.ErrBig, r)
	}
	for _, l := range [][]api.Whole{{above(past), whole.Of(0)}, {above(past), above(past), whole.Of(0), below(past)}} {
		r, e = ratio.Unchain(l...)
		wantErr(t, "by 0", e, api.ErrRatioZero, r)
	}
}
