package roots_test

import (
	"math"
	"testing"

	"surd/api"
	"surd/div"
	"surd/mul"
	"surd/nat"
	"surd/roots"
)

// wantPerfect asks for that power.
func wantPerfect(t *testing.T, a, base api.Nat, k int) {
	t.Helper()
	b, n, e := roots.Perfect(a)
	if n != k {
		t.Errorf("Perfect of %v: exponent %d, not %d", short(a), n, k)
	}
	wantOK(t, "Perfect", b, e, base)
}

// The chapter's example 3, of Perfect.
func TestExamplesOfPowers(t *testing.T) {
	wantPerfect(t, api.Nat{64}, api.Nat{2}, 6)
	wantPerfect(t, api.Nat{36}, api.Nat{6}, 2)
	wantPerfect(t, api.Nat{12}, api.Nat{12}, 1)
}

// P4.3: 0 and 1 in all shapes are themselves, and 1 their exponent.
func TestPowersOfNoughtAndOne(t *testing.T) {
	for _, zero := range []api.Nat{nil, {}, {0}, {0, 0}} {
		wantPerfect(t, zero, nil, 1)
		wantPerfect(t, append(api.Nat{1}, zero...), api.Nat{1}, 1)
	}
}

// P4.3, P4.11: every small number, held against a table of all powers.
func TestSmallPowers(t *testing.T) {
	const most = 100000
	var base, exponent [most]uint64
	for v := range uint64(most) {
		base[v], exponent[v] = v, 1
	}
	for b := uint64(most - 1); b > 1; b-- {
		// The least base comes last: it has the greatest exponent.
		for p, k := b, uint64(1); p < most; p, k = p*b, k+1 {
			base[p], exponent[p] = b, k
		}
	}
	for v := range uint64(most) {
		wantPerfect(t, nat.From(v), nat.From(base[v]), int(exponent[v]))
	}
}

// bases are numbers above 1 that are no powers.
func bases(t *testing.T) []api.Nat {
	t.Helper()
	m := mix(11)
	out := []api.Nat{{2}, {3}, {6}, {10}, {12}, {15}, {1 << 63 * 3 / 2}, {^uint64(0)}, {2, 1}}
	for i := range 10 {
		// Twice an odd number, and 2^192 + 2^64 + 2 or the like, is no power.
		odd := m.full(1 + 3*i)
		out = append(out, must(t)(nat.Left(odd, 1)), plus(t, power(130+i*64), api.Nat{2, 1}))
	}
	return append(out, plus(t, times(t, ones(300), ones(300)), api.Nat{1}), times(t, api.Nat{3}, power(600)))
}

// P4.3, P4.11: powers of numbers that are none.
func TestPowers(t *testing.T) {
	for _, b := range bases(t) {
		for _, k := range []int{1, 2, 3, 4, 5, 6, 7, 8, 9, 12, 13, 25, 30, 49, 64, 97, 121, 210, 1009, 1024, 2310, 4099} {
			if nat.Length(b)*k < 1<<15 {
				wantPerfect(t, append(must(t)(mul.Pow(b, k)), 0), b, k)
			}
		}
	}
}

// P4.3, P4.11: powers of odd numbers with long runs of bits 0 or 1, which are
// no powers themselves.
func TestPowersOfSparseNumbers(t *testing.T) {
	one := api.Nat{1}
	for n := 4; n < 700; n += 1 + n/9 {
		for _, b := range []api.Nat{plus(t, power(n), one), minus(t, power(n), one), plus(t, power(2*n), power(n/2+64))} {
			for _, k := range []int{1, 3, 5, 7, 15} {
				wantPerfect(t, must(t)(mul.Pow(b, k)), b, k)
			}
		}
	}
}

// P4.3: from below, the root's bits are those of a period of 1 / p.
func TestPowersOfPeriods(t *testing.T) {
	for _, p := range []uint64{3, 5, 17, 257} {
		for n := 64; n < 1024; n *= 2 {
			period := must(t)(div.Quo(ones(n), api.Nat{p}))
			root := plus(t, must(t)(nat.Left(period, n)), api.Nat{1})
			wantPerfect(t, must(t)(mul.Pow(root, int(p))), root, int(p))
		}
	}
}

// P4.3: a number beside a power, or twice as great, is seldom one.
func TestBesidePowers(t *testing.T) {
	for _, b := range bases(t) {
		for _, k := range []int{2, 3, 5, 6, 7, 15, 30, 101} {
			if nat.Length(b)*k < 8 || nat.Length(b)*k > 1<<14 {
				continue
			}
			power := must(t)(mul.Pow(b, k))
			// Of two powers beside each other there are 8 and 9 alone.
			next, before := plus(t, power, api.Nat{1}), minus(t, power, api.Nat{1})
			wantPerfect(t, next, next, 1)
			wantPerfect(t, before, before, 1)
		}
	}
	for k := 2; k < 300; k++ {
		three := must(t)(mul.Pow(api.Nat{3}, k))
		wantPerfect(t, times(t, three, api.Nat{2}), times(t, three, api.Nat{2}), 1)
		wantPerfect(t, times(t, three, api.Nat{5}), times(t, three, api.Nat{5}), 1)
	}
}

// P4.3: a product of powers is one of the exponent that they have in common.
func TestPowersOfProducts(t *testing.T) {
	for k := 1; k < 40; k++ {
		for l := 1; l < 40; l++ {
			a := times(t, must(t)(mul.Pow(api.Nat{2}, k)), must(t)(mul.Pow(api.Nat{3}, l)))
			common := k
			for k%common > 0 || l%common > 0 {
				common--
			}
			base := times(t, must(t)(mul.Pow(api.Nat{2}, k/common)), must(t)(mul.Pow(api.Nat{3}, l/common)))
			wantPerfect(t, a, base, common)
			odd := times(t, must(t)(mul.Pow(api.Nat{5}, k)), must(t)(mul.Pow(api.Nat{7}, l)))
			base = times(t, must(t)(mul.Pow(api.Nat{5}, k/common)), must(t)(mul.Pow(api.Nat{7}, l/common)))
			wantPerfect(t, odd, base, common)
		}
	}
}

// P4.3: long numbers end soon, powers or not.
func TestGreatPowers(t *testing.T) {
	m := mix(12)
	wantPerfect(t, must(t)(mul.Pow(api.Nat{3}, 1<<17)), api.Nat{3}, 1<<17)
	wantPerfect(t, must(t)(mul.Pow(api.Nat{10}, 65537)), api.Nat{10}, 65537)
	wantPerfect(t, must(t)(mul.Pow(api.Nat{7}, 30030)), api.Nat{7}, 30030)
	odd := m.full(1 << 10)
	odd[0] = 3 // It leaves 3, divided by 4: not a square. Its cube is not one either.
	wantPerfect(t, must(t)(mul.Pow(odd, 3)), odd, 3)
	long := m.full(1 << 12)
	long[0] = 3
	wantPerfect(t, long, long, 1)
	wantPerfect(t, ones(1<<18), ones(1<<18), 1)
	wantPerfect(t, power(1<<25+1), api.Nat{2}, 1<<25+1)
}

// P4.3, R6: ErrBig is asked of the base alone.
func TestPowersAtTheLimit(t *testing.T) {
	const most = api.MaxBits
	wantPerfect(t, power(most-1), api.Nat{2}, most-1)
	wantPerfect(t, power(2*most+77), api.Nat{2}, 2*most+77)
	wantPerfect(t, times(t, api.Nat{3}, power(most-2)), times(t, api.Nat{3}, power(most-2)), 1)
	nine := append(make(api.Nat, (2*most-64)/64), 9)
	wantPerfect(t, nine, times(t, api.Nat{3}, power(most-32)), 2)
	b, k, e := roots.Perfect(append(make(api.Nat, 2*most/64), 9))
	wantErr(t, "Perfect of 9 2^(2 MaxBits)", e, api.ErrBig, b)
	if k != 0 {
		t.Errorf("exponent %d beside an error", k)
	}
	b, k, e = roots.Perfect(append(make(api.Nat, most/64), 6))
	wantErr(t, "Perfect of 6 2^MaxBits", e, api.ErrBig, b)
	if k != 0 {
		t.Errorf("exponent %d beside an error", k)
	}
}

// wantLog asks for that exponent.
func wantLog(t *testing.T, a api.Nat, base, want int) {
	t.Helper()
	if k, e := roots.Log(a, base); k != want || e != api.OK {
		t.Errorf("Log of %v by %d: %d, error %d, not %d", short(a), base, k, e, want)
	}
}

// wantNoLog asks for ErrArg, and for nothing beside it.
func wantNoLog(t *testing.T, a api.Nat, base int) {
	t.Helper()
	if k, e := roots.Log(a, base); k != 0 || e != api.ErrArg {
		t.Errorf("Log of %v by %d: %d, error %d", short(a), base, k, e)
	}
}

// The chapter's example 3, of Log.
func TestExamplesOfLogs(t *testing.T) {
	wantLog(t, api.Nat{1000}, 10, 3)
	wantLog(t, api.Nat{999}, 10, 2)
	wantNoLog(t, nil, 10)
}

// P4.4: 0 has none, and a base is at least 2.
func TestLogsThatAreNone(t *testing.T) {
	for _, base := range []int{math.MinInt, -2, -1, 0, 1, 2, 3, 10, math.MaxInt} {
		for _, zero := range []api.Nat{nil, {}, {0}, {0, 0}} {
			wantNoLog(t, zero, base)
		}
		if base < 2 {
			for _, a := range append(samples(), ones(api.MaxBits+1)) {
				wantNoLog(t, a, base)
			}
		}
	}
}

// P4.4: every small number and base.
func TestSmallLogs(t *testing.T) {
	for base := uint64(2); base < 40; base++ {
		k, next := 0, base
		for v := uint64(1); v < 5000; v++ {
			if v == next {
				k, next = k+1, next*base
			}
			wantLog(t, api.Nat{v, 0}, int(base), k)
		}
	}
}

// P4.4: powers of all kinds of bases, and the numbers beside them.
func TestLogsBesidePowers(t *testing.T) {
	one := api.Nat{1}
	for _, base := range []int{2, 3, 7, 8, 10, 16, 36, 255, 65537, 1 << 31, 1<<32 - 1, 1 << 62, math.MaxInt} {
		for _, k := range []int{1, 2, 3, 5, 16, 63, 64, 65, 200, 1000, 4097} {
			power := must(t)(mul.Pow(nat.From(uint64(base)), k))
			wantLog(t, power, base, k)
			wantLog(t, plus(t, power, one), base, k)
			wantLog(t, minus(t, power, one), base, k-1)
		}
	}
}

// P4.4: samples: base^k is at most a, and the next power is not.
func TestLogs(t *testing.T) {
	m := mix(13)
	for _, a := range append(samples(), m.full(300), m.runs(500)) {
		if isZero(a) {
			continue
		}
		for _, base := range []int{2, 3, 5, 10, 100, 12345, 1<<40 + 1, math.MaxInt} {
			k, e := roots.Log(a, base)
			b := nat.From(uint64(base))
			power := must(t)(mul.Pow(b, k))
			if e != api.OK || nat.Compare(power, a) > 0 || nat.Compare(times(t, power, b), a) <= 0 {
				t.Errorf("Log of %v by %d: %d, error %d", short(a), base, k, e)
			}
		}
	}
}

// P4.4: long numbers, and longer ones than may be answered, end soon.
func TestGreatLogs(t *testing.T) {
	const most = api.MaxBits
	wantLog(t, power(most+100), 2, most+100)
	wantLog(t, ones(most+100), 2, most+99)
	wantLog(t, power(3*most), 8, most)
	wantLog(t, ones(3*most), 8, most-1)
	wantLog(t, power(most), math.MaxInt, most/63)
	long := must(t)(mul.Pow(api.Nat{10}, 1<<20))
	wantLog(t, long, 10, 1<<20)
	wantLog(t, minus(t, long, api.Nat{1}), 10, 1<<20-1)
	// The logarithm of 2 by 10 is 0.30102999566398..
	wantLog(t, power(most), 10, 20201781)
}
