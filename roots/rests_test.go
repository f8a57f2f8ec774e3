package roots_test

import (
	"math"
	"slices"
	"testing"

	"surd/api"
	"surd/nat"
	"surd/roots"
)

// wantRests asks Roots for that list, and Residue for whether there is one.
func wantRests(t *testing.T, a api.Nat, m int, want []int) {
	t.Helper()
	l, e := roots.Roots(a, m)
	if e != api.OK || !slices.Equal(l, want) {
		t.Errorf("Roots of %v by %d: %v, error %d, not %v", short(a), m, l, e, want)
	}
	is, e := roots.Residue(a, m)
	if e != api.OK || is != (len(want) > 0) {
		t.Errorf("Residue of %v by %d: %v, error %d", short(a), m, is, e)
	}
}

// The chapter's example 4, of Residue; and small ones of Roots.
func TestExamplesOfRests(t *testing.T) {
	wantRests(t, api.Nat{3}, 4, nil)
	wantRests(t, api.Nat{5}, 4, []int{1, 3})
	wantRests(t, api.Nat{17}, 8, []int{1, 3, 5, 7})
	wantRests(t, api.Nat{3}, 7, nil)
	wantRests(t, nil, 1, []int{0})
	wantRests(t, api.Nat{9}, 1, []int{0})
	wantRests(t, nil, 16, []int{0, 4, 8, 12})
}

// P4.6, P4.13: moduli from 1 to 65,536 alone, whatever the number is.
func TestModuliThatAreNone(t *testing.T) {
	for _, m := range []int{0, -1, -7, 65537, 65538, 1 << 32, math.MaxInt, math.MinInt} {
		for _, a := range append(samples(), ones(api.MaxBits+1)) {
			if is, e := roots.Residue(a, m); is || e != api.ErrArg {
				t.Errorf("Residue by %d: %v, error %d", m, is, e)
			}
			if l, e := roots.Roots(a, m); len(l) > 0 || e != api.ErrArg {
				t.Errorf("Roots by %d: %v, error %d", m, l, e)
			}
		}
	}
}

// P4.6, P4.13: every small number and modulus.
func TestSmallRests(t *testing.T) {
	for m := 1; m < 60; m++ {
		for v := range 2 * m {
			var want []int
			for x := range m {
				if (x*x-v)%m == 0 {
					want = append(want, x)
				}
			}
			wantRests(t, nat.From(uint64(v)), m, want)
		}
	}
}

// modelRest goes through a's bits, from the top.
func modelRest(a api.Nat, m int) int {
	rest := 0
	for i := nat.Length(a) - 1; i >= 0; i-- {
		rest = (2*rest + nat.Bit(a, i)) % m
	}
	return rest
}

// P4.6, P4.12, P4.13: long numbers by all kinds of moduli; the list rises,
// and has m - x with every x above 0.
func TestRests(t *testing.T) {
	for _, a := range samples() {
		for _, m := range []int{1, 2, 3, 4, 9, 210, 255, 256, 1009, 4096, 30030, 65520, 65521, 65535, 65536} {
			rest := modelRest(a, m)
			var want []int
			for x := range m {
				if x*x%m == rest {
					want = append(want, x)
				}
			}
			wantRests(t, a, m, want)
			for _, x := range want {
				if x > 0 && !slices.Contains(want, m-x) {
					t.Errorf("Roots of %v by %d: %d without %d", a, m, x, m-x)
				}
			}
		}
	}
}

// P4.12: where a rest is no square's, IsSquare says no; of a square every
// rest is one.
func TestSquaresHaveTheirRests(t *testing.T) {
	for _, a := range samples() {
		square := times(t, a, a)
		for m := 1; m < 300; m++ {
			if is, _ := roots.Residue(square, m); !is {
				t.Errorf("the square of %v has no root by %d", a, m)
			}
			if is, _ := roots.Residue(a, m); !is {
				wantIsSquare(t, "one with a wrong rest", a, false)
			}
		}
	}
}

// P4.6, R6: what is handed in may be longer than what may be answered.
func TestRestsOfLongNumbers(t *testing.T) {
	// 2^60 leaves 1, divided by 61, and MaxBits + 8 is 60 times 1118481 and 12;
	// 2^12 leaves 9.
	wantRests(t, power(api.MaxBits+8), 61, []int{3, 58})
	wantRests(t, ones(api.MaxBits+8), 65536, nil)
}
