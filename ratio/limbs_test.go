package ratio

import (
	"slices"
	"testing"

	"surd/api"
	"surd/nat"
)

// The functions of limbs.go are asked here for what few calls come to: numbers
// with more than MaxBits bits. They are made of runs of bits, so that it is
// plain what their products are.

// span is 2^high - 2^low.
func span(low, high int) api.Nat {
	made := make(api.Nat, high/limbBits+1)
	for i := range made {
		for bit := range limbBits {
			if at := i*limbBits + bit; at >= low && at < high {
				made[i] |= 1 << bit
			}
		}
	}
	return trim(made)
}

func wantNat(t *testing.T, what string, got, want api.Nat) {
	t.Helper()
	if !slices.Equal(got, want) {
		t.Errorf("%s: %d bits, not %d", what, nat.Length(got), nat.Length(want))
	}
}

// R6: sums, products, powers and shifts beyond the limit.
func TestNumbersBeyondTheLimit(t *testing.T) {
	const n, m = api.MaxBits + 100, 70
	two := span(1, 2)
	wantNat(t, "2^n", powerOf(2, n+1), span(n+1, n+2))
	wantNat(t, "4^n", powerOf(4, n), span(2*n, 2*n+1))
	wantNat(t, "1 2^n", shifted(api.Nat{1, 0}, n), span(n, n+1))
	wantNat(t, "2^n - 1 and 1", sum(span(0, n), api.Nat{1}), span(n, n+1))
	wantNat(t, "1 and 2^n - 1", sum(api.Nat{1, 0, 0}, span(0, n)), span(n, n+1))
	wantNat(t, "2^n less 1", apart(span(n, n+1), api.Nat{1, 0}), span(0, n))
	wantNat(t, "1 less 2^n", apart(api.Nat{1}, span(n, n+1)), span(0, n))
	wantNat(t, "twice 2^n - 1", product(span(0, n), two), span(1, n+1))
	// (2^n - 1)(2^m + 1) is 2^(n+m) - 2^m and 2^n - 1.
	p := sum(span(m, n+m), span(0, n))
	wantNat(t, "a product", product(span(0, n), sum(span(m, m+1), api.Nat{1})), p)
	wantNat(t, "a product", product(sum(span(m, m+1), api.Nat{1}), span(0, n)), p)
}

// R6: quotients and rests beyond the limit, one of them and both.
func TestQuotientsBeyondTheLimit(t *testing.T) {
	const n, m = api.MaxBits + 100, 70
	p := sum(span(m, n+m), span(0, n))
	for _, rest := range []api.Nat{nil, {1}, span(0, m)} {
		// By 2^m + 1 the quotient is long, by 2^n - 1 the divisor.
		short := sum(span(m, m+1), api.Nat{1})
		q, r := both(sum(p, rest), short)
		wantNat(t, "a long quotient", q, span(0, n))
		wantNat(t, "its rest", r, rest)
		q, r = both(append(sum(p, rest), 0), append(span(0, n), 0, 0))
		wantNat(t, "by a long divisor", q, short)
		wantNat(t, "its rest", r, rest)
	}
	q, r := both(span(0, 3*n), span(0, n))
	wantNat(t, "both are long", q, sum(sum(span(2*n, 2*n+1), span(n, n+1)), api.Nat{1}))
	wantNat(t, "its rest", r, nil)
	wantNat(t, "a half", exactly(span(1, n+1), api.Nat{2}), span(0, n))
	whole := append(span(0, n), 0)
	wantNat(t, "itself", exactly(whole, api.Nat{1}), span(0, n))
}
