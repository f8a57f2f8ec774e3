package mul_test

import (
	"math"
	"testing"

	"surd/api"
	"surd/mul"
	"surd/nat"
)

// The chapter's example 4, but for the last one.
func TestExamplesOfCounts(t *testing.T) {
	p, e := mul.Factorial(21)
	wantOK(t, "Factorial(21)", p, e, api.Nat{14197454024290336768, 2})
	p, e = mul.Binomial(6, 2)
	wantOK(t, "Binomial(6, 2)", p, e, api.Nat{15})
	p, e = mul.Binomial(6, 7)
	wantOK(t, "Binomial(6, 7)", p, e, nil)
	p, e = mul.Fibonacci(94)
	wantOK(t, "Fibonacci(94)", p, e, api.Nat{1293530146158671551, 1})
	p, e = mul.Factorial(20001)
	wantErr(t, "Factorial(20001)", e, api.ErrArg, p)
}

// P2.7, P2.13: Factorial, step by step, and at the end.
func TestFactorial(t *testing.T) {
	p, e := mul.Factorial(0)
	wantOK(t, "Factorial(0)", p, e, api.Nat{1})
	for n := 1; n < 400; n++ {
		want := must(t)(nat.Times(p, uint64(n)))
		p, e = mul.Factorial(n)
		wantOK(t, "Factorial", p, e, want)
	}
	want := must(t)(nat.Times(must(t)(mul.Factorial(api.MaxIndex-1)), api.MaxIndex))
	p, e = mul.Factorial(api.MaxIndex)
	wantOK(t, "Factorial(MaxIndex)", p, e, want)
	if nat.Length(p) != 256909 {
		t.Errorf("Factorial(MaxIndex) has %d bits", nat.Length(p))
	}
}

// P2.7, P2.13: Binomial by Pascal's rule; a row's sum is 2^n.
func TestBinomial(t *testing.T) {
	row := []api.Nat{{1}}
	for n := range 120 {
		total := api.Nat(nil)
		for k := -2; k <= n+2; k++ {
			p, e := mul.Binomial(n, k)
			if k < 0 || k > n {
				wantOK(t, "Binomial beside the row", p, e, nil)
				continue
			}
			wantOK(t, "Binomial", p, e, row[k])
			total = sum(t, total, p)
		}
		wantNat(t, "a row's sum", total, power(n))
		next := []api.Nat{{1}}
		for k := range n {
			next = append(next, sum(t, row[k], row[k+1]))
		}
		row = append(next, api.Nat{1})
	}
}

// P2.7, P2.13: Binomial of the greatest n, and of any k.
func TestGreatBinomial(t *testing.T) {
	const n = api.MaxIndex
	for _, k := range []int{-1, math.MinInt, n + 1, math.MaxInt, -1<<40 - 1, 1<<40 + 1} {
		p, e := mul.Binomial(n, k)
		wantOK(t, "Binomial beside the row", p, e, nil)
	}
	for _, k := range []int{0, 1, 2, 9999, 10000, 10001, 19999, 20000} {
		p, e := mul.Binomial(n, k)
		whole, e2 := mul.Product(p, must(t)(mul.Factorial(k)), must(t)(mul.Factorial(n-k)))
		if e != api.OK {
			t.Errorf("Binomial(%d, %d): error %d", n, k, e)
		}
		wantOK(t, "Binomial Factorial Factorial", whole, e2, must(t)(mul.Factorial(n)))
	}
}

// P2.7, P2.14: Fibonacci, step by step, and his laws.
func TestFibonacci(t *testing.T) {
	this, next := api.Nat(nil), api.Nat{1}
	for n := range 500 {
		p, e := mul.Fibonacci(n)
		wantOK(t, "Fibonacci", p, e, this)
		this, next = next, sum(t, this, next)
	}
	f := func(n int) api.Nat { return must(t)(mul.Fibonacci(n)) }
	for _, m := range []int{0, 1, 2, 17, 100, 9000} {
		for _, n := range []int{0, 1, 3, 64, 999, 10000} {
			want := sum(t, modelProduct(f(m), f(n)), modelProduct(f(m+1), f(n+1)))
			wantNat(t, "F(m + n + 1)", f(m+n+1), want)
			rest := must(t)(nat.Sub(sum(t, f(n+1), f(n+1)), f(n)))
			wantNat(t, "F(2 n)", f(2*n), modelProduct(f(n), rest))
		}
	}
}

// P2.7: n that may not be.
func TestIndexesThatMayNotBe(t *testing.T) {
	for _, n := range []int{-1, -2, math.MinInt, api.MaxIndex + 1, 1 << 40, math.MaxInt} {
		p, e := mul.Factorial(n)
		wantErr(t, "Factorial", e, api.ErrArg, p)
		p, e = mul.Fibonacci(n)
		wantErr(t, "Fibonacci", e, api.ErrArg, p)
		for _, k := range []int{-1, 0, 1, n, math.MaxInt, math.MinInt} {
			p, e = mul.Binomial(n, k)
			wantErr(t, "Binomial", e, api.ErrArg, p)
		}
	}
}
