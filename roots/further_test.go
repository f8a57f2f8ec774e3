package roots_test

import (
	"math"
	"testing"

	"surd/api"
	"surd/mul"
	"surd/nat"
	"surd/roots"
)

// The chapter's example 2.
func TestExamplesOfRoots(t *testing.T) {
	for _, c := range []struct {
		a          uint64
		k          int
		root, rest uint64
	}{{1000, 3, 10, 0}, {999, 3, 9, 270}, {5, 1, 5, 0}, {5, 100, 1, 4}, {0, 7, 0, 0}, {64, 6, 2, 0}} {
		r, s, e := roots.Root(nat.From(c.a), c.k)
		wantRoot(t, "Root", r, s, e, nat.From(c.root), nat.From(c.rest))
	}
	r, s, e := roots.Root(api.Nat{5}, 0)
	wantErr(t, "Root(5, 0)", e, api.ErrRootIndex, r, s)
}

// P4.2: an index below 1, whatever the number is.
func TestRootsThatAreNone(t *testing.T) {
	for _, a := range append(samples(), ones(api.MaxBits+1)) {
		for _, k := range []int{0, -1, -2, -64, math.MinInt, math.MinInt + 1} {
			r, s, e := roots.Root(a, k)
			wantErr(t, "Root", e, api.ErrRootIndex, r, s)
		}
	}
}

// P4.2: every small number and every index that matters.
func TestSmallRoots(t *testing.T) {
	for v := range uint64(3000) {
		for k := 1; k < 15; k++ {
			root, power := uint64(0), uint64(0)
			for smallPower(root+1, k) <= v {
				root++
				power = smallPower(root, k)
			}
			r, s, e := roots.Root(nat.From(v), k)
			wantRoot(t, "a small root", r, s, e, nat.From(root), nat.From(v-power))
		}
	}
}

// smallPower is v^k, or some number above 2^32 where it were greater.
func smallPower(v uint64, k int) uint64 {
	made := uint64(1)
	for range k {
		made = min(made*v, 1<<40)
	}
	return made
}

// P4.2: samples, held against roots that are found bit by bit.
func TestRootsBitByBit(t *testing.T) {
	for _, a := range samples() {
		for _, k := range []int{1, 2, 3, 4, 5, 7, 10, 31, 63, 64, 65, 100, 127, 128, 129, 1000} {
			r, s, e := roots.Root(a, k)
			root := modelRoot(t, a, k)
			wantRoot(t, "Root", r, s, e, root, minus(t, a, must(t)(mul.Pow(root, k))))
		}
	}
}

// P4.2, P4.7: powers, and the numbers beside them.
func TestRootsOfPowers(t *testing.T) {
	m, one := mix(7), api.Nat{1}
	for _, k := range []int{2, 3, 4, 5, 6, 7, 11, 12, 16, 17, 40, 64, 65, 97, 256, 1000, 4097} {
		for _, b := range []api.Nat{{2}, {3}, {10}, {1<<32 - 1}, {^uint64(0)}, {0, 1}, {1, 1}, m.full(2), m.runs(3), ones(190), m.full(7)} {
			if isZero(b) || nat.Length(b)*k > 1<<17 {
				continue
			}
			power := must(t)(mul.Pow(b, k))
			r, s, e := roots.Root(power, k)
			wantRoot(t, "of a power", r, s, e, b, nil)
			r, s, e = roots.Root(plus(t, power, one), k)
			wantRoot(t, "of a power and 1", r, s, e, b, one)
			below := minus(t, b, one)
			rest := minus(t, minus(t, power, one), must(t)(mul.Pow(below, k)))
			r, s, e = roots.Root(minus(t, power, one), k)
			wantRoot(t, "of a power less 1", r, s, e, below, rest)
		}
	}
}

// P4.2: roots with a run of bits 0 near their end: there a step of Newton's is
// 1 or 2, and must not be less.
func TestRootsOfSmallSteps(t *testing.T) {
	m := mix(15)
	for _, k := range []int{3, 4, 5, 7, 16} {
		for n := 30; n < 400; n += 10 {
			high := must(t)(nat.Left(m.full(1+n/64), n))
			for v := range uint64(3) {
				b := plus(t, high, nat.From(v))
				r, s, e := roots.Root(must(t)(mul.Pow(b, k)), k)
				wantRoot(t, "of a power", r, s, e, b, nil)
			}
		}
	}
}

// wantKth asks for P4.7: r^k + s = a, and (r + 1)^k above a.
func wantKth(t *testing.T, a api.Nat, k int) {
	t.Helper()
	r, s, e := roots.Root(a, k)
	if e != api.OK {
		t.Fatalf("Root of %v, %d: error %d", short(a), k, e)
	}
	wantNat(t, "r^k + s", plus(t, must(t)(mul.Pow(r, k)), s), nat.Norm(a))
	if next := must(t)(mul.Pow(plus(t, r, api.Nat{1}), k)); nat.Compare(next, a) <= 0 {
		t.Errorf("Root of %v, %d: %v is too small", short(a), k, short(r))
	}
}

// P4.7: long numbers.
func TestLongRoots(t *testing.T) {
	m := mix(8)
	for limbs := range 60 {
		a := m.runs(limbs)
		for range 12 {
			wantKth(t, a, 1+m.below(40))
			wantKth(t, m.nat(limbs), 1+m.below(64*limbs+1))
		}
	}
	for _, k := range []int{3, 5, 64, 1000, 1 << 15, 1<<16 - 1, 1 << 16} {
		wantKth(t, m.full(1<<10), k)
		wantKth(t, ones(1<<16), k)
	}
}

// P4.8: the m-th root of the k-th root is the (m k)-th root.
func TestRootsOfRoots(t *testing.T) {
	m := mix(9)
	for range 400 {
		a, k, l := m.runs(m.below(20)), 1+m.below(9), 1+m.below(9)
		first, _, _ := roots.Root(a, k)
		both, _, e := roots.Root(first, l)
		whole, _, f := roots.Root(a, k*l)
		if e != f {
			t.Errorf("errors %d and %d", e, f)
		}
		wantOK(t, "the root of a root", both, e, whole)
	}
}

// P4.9: roots rise with their numbers, and by at most one from one to the
// next.
func TestOrderOfRoots(t *testing.T) {
	m := mix(10)
	for range 1500 {
		a, k := m.nat(m.below(8)), 1+m.below(12)
		b := plus(t, a, nat.From(m.next()>>(m.next()%64)))
		low, _, _ := roots.Root(a, k)
		high, _, _ := roots.Root(b, k)
		if nat.Compare(low, high) > 0 {
			t.Errorf("the %d-th roots of %v and %v fall", k, a, b)
		}
		next, _, _ := roots.Root(plus(t, a, api.Nat{1}), k)
		if nat.Length(minus(t, next, low)) > 1 {
			t.Errorf("the %d-th root of %v and 1 leaps", k, a)
		}
	}
}

// P4.2: indexes at their ends.
func TestRootsOfGreatIndex(t *testing.T) {
	for _, k := range []int{math.MaxInt, math.MaxInt - 1, 1 << 40, 1 << 32} {
		for _, a := range samples() {
			r, s, e := roots.Root(a, k)
			if isZero(a) {
				wantRoot(t, "of 0", r, s, e, nil, nil)
				continue
			}
			wantRoot(t, "of great index", r, s, e, api.Nat{1}, minus(t, a, api.Nat{1}))
		}
	}
	// 2^n has just n as the last index with a root above 1.
	for _, n := range []int{1, 2, 3, 63, 64, 65, 1000, 1 << 20} {
		r, s, e := roots.Root(power(n), n)
		wantRoot(t, "of 2^n, n", r, s, e, api.Nat{2}, nil)
		r, s, e = roots.Root(power(n), n+1)
		wantRoot(t, "of 2^n, n + 1", r, s, e, api.Nat{1}, ones(n))
		if n > 2 {
			r, s, e = roots.Root(ones(n), n-1)
			wantRoot(t, "of 2^n - 1, n - 1", r, s, e, api.Nat{2}, ones(n-1))
		}
	}
	r, s, e := roots.Root(nil, 1)
	wantRoot(t, "of 0, 1", r, s, e, nil, nil)
}

// P4.2, R6: at the limit of what may be answered, and beyond.
func TestRootsAtTheLimit(t *testing.T) {
	const most = api.MaxBits
	full, over := ones(most), ones(most+1)
	r, s, e := roots.Root(full, 1)
	wantRoot(t, "of a full number, 1", r, s, e, full, nil)
	r, s, e = roots.Root(over, 1)
	wantErr(t, "of one too long, 1", e, api.ErrBig, r, s)
	r, s, e = roots.Root(power(most), most)
	wantRoot(t, "of 2^MaxBits, MaxBits", r, s, e, api.Nat{2}, nil)
	r, s, e = roots.Root(power(most), most+1)
	wantRoot(t, "of 2^MaxBits, MaxBits + 1", r, s, e, api.Nat{1}, full)
	r, s, e = roots.Root(over, most+1)
	wantErr(t, "of 2^(MaxBits + 1) - 1, MaxBits + 1", e, api.ErrBig, r, s)
	r, s, e = roots.Root(over, math.MaxInt)
	wantErr(t, "of one too long, MaxInt", e, api.ErrBig, r, s)
	r, s, e = roots.Root(power(2*most-2), 2)
	wantRoot(t, "of 2^(2 MaxBits - 2), 2", r, s, e, power(most-1), nil)
	r, s, e = roots.Root(power(2*most), 2)
	wantErr(t, "of 2^(2 MaxBits), 2", e, api.ErrBig, r, s)
	r, s, e = roots.Root(power(3*most-3), 3)
	wantRoot(t, "of 2^(3 MaxBits - 3), 3", r, s, e, power(most-1), nil)
	r, s, e = roots.Root(power(3*most), 3)
	wantErr(t, "of 2^(3 MaxBits), 3", e, api.ErrBig, r, s)
	beside := power(3*most - 3)
	beside[0] = 5
	r, s, e = roots.Root(beside, 3)
	wantRoot(t, "of 2^(3 MaxBits - 3) + 5, 3", r, s, e, power(most-1), api.Nat{5})
	beside[most/64] = 1
	r, s, e = roots.Root(beside, 3)
	wantErr(t, "a rest of more than MaxBits", e, api.ErrBig, r, s)
}
