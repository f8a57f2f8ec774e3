package roots_test

import (
	"math"
	"slices"
	"testing"

	"surd/api"
	"surd/div"
	"surd/nat"
	"surd/roots"
)

// maxRadicand is the greatest number that Chain and Pell take.
const maxRadicand = 65536

// P4.14: chains that are known.
func TestKnownChains(t *testing.T) {
	for _, c := range []struct {
		n, first int
		period   []int
	}{
		{0, 0, nil}, {1, 1, nil}, {2, 1, []int{2}}, {3, 1, []int{1, 2}}, {4, 2, nil}, {5, 2, []int{4}},
		{7, 2, []int{1, 1, 1, 4}}, {13, 3, []int{1, 1, 1, 1, 6}}, {14, 3, []int{1, 2, 1, 6}}, {49, 7, nil},
		{61, 7, []int{1, 4, 3, 1, 2, 2, 1, 3, 4, 1, 14}}, {65535, 255, []int{1, 510}}, {65536, 256, nil},
	} {
		first, period, e := roots.Chain(c.n)
		if e != api.OK || first != c.first || !slices.Equal(period, c.period) {
			t.Errorf("Chain(%d): %d, %v, error %d", c.n, first, period, e)
		}
	}
}

// P4.14: numbers that Chain and Pell do not take; Pell takes no square.
func TestChainsThatAreNone(t *testing.T) {
	for _, n := range []int{-1, -2, math.MinInt, maxRadicand + 1, maxRadicand + 2, 1 << 40, math.MaxInt} {
		if first, period, e := roots.Chain(n); first != 0 || len(period) > 0 || e != api.ErrArg {
			t.Errorf("Chain(%d): %d, %v, error %d", n, first, period, e)
		}
		x, y, e := roots.Pell(n)
		wantErr(t, "Pell out of range", e, api.ErrArg, x, y)
	}
	for root := 0; root <= 256; root++ {
		x, y, e := roots.Pell(root * root)
		wantErr(t, "Pell of a square", e, api.ErrArg, x, y)
	}
}

// P4.14, P4.15: all chains: of a square none; else twice the first number at
// the end, and nowhere else, and what is ahead of it reads the same from both
// ends.
func TestAllChains(t *testing.T) {
	root := 0
	for n := range maxRadicand + 1 {
		if (root+1)*(root+1) <= n {
			root++
		}
		first, period, e := roots.Chain(n)
		if e != api.OK || first != root || (len(period) == 0) != (root*root == n) {
			t.Fatalf("Chain(%d): %d, %v, error %d", n, first, period, e)
		}
		if len(period) == 0 {
			continue
		}
		last := len(period) - 1
		front := period[:last]
		back := slices.Clone(front)
		slices.Reverse(back)
		if slices.Index(period, 2*first) != last || !slices.Equal(front, back) || slices.Min(period) < 1 {
			t.Errorf("Chain(%d): %d, %v", n, first, period)
		}
	}
}

// P4.14: the chain of the root's first 600 bits, by division alone, begins
// with the same numbers.
func TestChainsByDivision(t *testing.T) {
	for n := 2; n < maxRadicand; n += 1 + n/50 {
		first, period, _ := roots.Chain(n)
		if len(period) == 0 {
			continue
		}
		a := modelSecond(t, must(t)(nat.Left(nat.From(uint64(n)), 1200)))
		b := power(600)
		for i := range 30 {
			q, rest, _ := div.Both(a, b)
			want := first
			if i > 0 {
				want = period[(i-1)%len(period)]
			}
			if nat.Compare(q, nat.From(uint64(want))) != 0 {
				t.Errorf("Chain(%d): %d at %d, not %v", n, want, i, q)
				break
			}
			a, b = b, rest
		}
	}
}

// decimal reads a number's text.
func decimal(t *testing.T, text string) api.Nat {
	t.Helper()
	var a api.Nat
	for _, c := range text {
		a = plus(t, times(t, a, api.Nat{10}), api.Nat{uint64(c - '0')})
	}
	return a
}

// P4.14: solutions that are known.
func TestKnownPells(t *testing.T) {
	for _, c := range []struct {
		n    int
		x, y string
	}{
		{2, "3", "2"}, {3, "2", "1"}, {5, "9", "4"}, {6, "5", "2"}, {7, "8", "3"}, {13, "649", "180"},
		{61, "1766319049", "226153980"}, {109, "158070671986249", "15140424455100"},
		{421, "3879474045914926879468217167061449", "189073995951839020880499780706260"},
		{65535, "256", "1"}, {65026, "130051", "510"},
	} {
		x, y, e := roots.Pell(c.n)
		wantRoot(t, "Pell", x, y, e, decimal(t, c.x), decimal(t, c.y))
	}
}

// isPell: is x^2 = n y^2 + 1?
func isPell(t *testing.T, n int, x, y api.Nat) bool {
	t.Helper()
	right := times(t, times(t, y, y), nat.From(uint64(n)))
	return nat.Compare(times(t, x, x), plus(t, right, api.Nat{1})) == 0
}

// P4.15: Pell's x and y fulfil their equation.
func TestAllPells(t *testing.T) {
	for n := 1; n <= maxRadicand; n++ {
		x, y, e := roots.Pell(n)
		if e == api.ErrArg {
			wantIsSquare(t, "one without Pell", nat.From(uint64(n)), true)
			continue
		}
		if e != api.OK || isZero(y) || !isPell(t, n, x, y) {
			t.Errorf("Pell(%d): %v, %v, error %d", n, x, y, e)
		}
	}
}

// P4.14: no lesser x and y do: each solution is a fraction of the chain, and
// none of those ahead of it fulfils the equation.
func TestPellsAreTheLeast(t *testing.T) {
	for n := 2; n < 3000; n++ {
		x, y, e := roots.Pell(n)
		if e != api.OK {
			continue
		}
		first, period, _ := roots.Chain(n)
		u, uLast := nat.From(uint64(first)), api.Nat{1}
		v, vLast := api.Nat{1}, api.Nat(nil)
		for i := 0; !isPell(t, n, u, v); i++ {
			k := nat.From(uint64(period[i%len(period)]))
			u, uLast = plus(t, times(t, u, k), uLast), u
			v, vLast = plus(t, times(t, v, k), vLast), v
		}
		wantRoot(t, "Pell", x, y, e, u, v)
	}
	for n := uint64(2); n < 40; n++ {
		x, y, e := roots.Pell(int(n))
		for v := uint64(1); e == api.OK && v < 2000; v++ {
			u, rest, _ := roots.Sqrt(nat.From(n*v*v + 1))
			if isZero(rest) {
				wantRoot(t, "the first one of all", x, y, e, u, nat.From(v))
				break
			}
		}
	}
}
