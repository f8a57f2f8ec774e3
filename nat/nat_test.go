package nat_test

import (
	"fmt"
	"math"
	"testing"

	"surd/api"
	"surd/nat"
)

// The chapter's examples 1 to 5.
func TestExamples(t *testing.T) {
	const top = ^uint64(0)
	s, e := nat.Add(api.Nat{top}, api.Nat{1})
	wantOK(t, "2^64 - 1 + 1", s, e, api.Nat{0, 1})
	s, e = nat.Sub(api.Nat{5}, api.Nat{7})
	wantErr(t, "5 - 7", s, e, api.ErrNatLess)
	s, e = nat.Sub(api.Nat{0, 1}, api.Nat{1})
	wantOK(t, "2^64 - 1", s, e, api.Nat{top})

	l, e := nat.Left(api.Nat{3}, 65)
	wantOK(t, "Left(3, 65)", l, e, api.Nat{0, 6})
	r, e := nat.Right(l, 66)
	wantOK(t, "Right(of that, 66)", r, e, api.Nat{1})
	r, e = nat.Low(api.Nat{13}, 3)
	wantOK(t, "Low(13, 3)", r, e, api.Nat{5})
	r, e = nat.Left(api.Nat{1}, -1)
	wantErr(t, "Left(1, -1)", r, e, api.ErrArg)
	r, e = nat.Left(api.Nat{1}, 1<<26)
	wantErr(t, "Left(1, 2^26)", r, e, api.ErrBig)
	r, e = nat.Left(nil, 1<<40)
	wantOK(t, "Left(0, 2^40)", r, e, nil)

	got := []int{nat.Length(nil), nat.Length(api.Nat{255}), nat.Tail(api.Nat{24}), nat.Count(api.Nat{24}), nat.Bit(api.Nat{5}, 2), nat.Bit(api.Nat{5}, -1)}
	if fmt.Sprint(got) != "[0 8 3 2 1 0]" {
		t.Errorf("Length, Tail, Count, Bit: %v", got)
	}

	q, rest, e := nat.Through(api.Nat{100}, 7)
	wantOK(t, "100 / 7", q, e, api.Nat{14})
	wantRest(t, "100 / 7 leaves", rest, 2)
	q, rest, e = nat.Through(api.Nat{1}, 0)
	wantErr(t, "1 / 0", q, e, api.ErrArg)
	wantRest(t, "1 / 0 leaves", rest, 0)
	s, e = nat.Times(api.Nat{1 << 63}, 2)
	wantOK(t, "2^63 times 2", s, e, api.Nat{0, 1})

	wantNat(t, "Norm(5 0 0)", nat.Norm(api.Nat{5, 0, 0}), api.Nat{5})
	if nat.Compare(api.Nat{5, 0}, api.Nat{5}) != 0 {
		t.Error("5 0 is not 5")
	}
	if v, ok := nat.Small(api.Nat{0, 1}); v != 0 || ok {
		t.Errorf("Small(0 1): %d, %v", v, ok)
	}
}

// P1.1: From, and Norm of every shape.
func TestNormFrom(t *testing.T) {
	for _, a := range samples() {
		wantNat(t, "Norm", nat.Norm(a), modelOf(a).nat())
	}
	for _, v := range []uint64{0, 1, 255, 1 << 63, math.MaxUint64} {
		wantNat(t, "From", nat.From(v), api.Nat{v})
	}
	if len(nat.From(0)) != 0 || len(nat.Norm(api.Nat{0, 0})) != 0 {
		t.Error("0 has a limb")
	}
}

// P1.1: Small.
func TestSmall(t *testing.T) {
	for _, a := range samples() {
		want, below := uint64(0), len(modelOf(a)) <= 64
		if below && len(a) > 0 {
			want = a[0]
		}
		if v, ok := nat.Small(a); v != want || ok != below {
			t.Errorf("Small(%v): %d, %v", a, v, ok)
		}
	}
}

// P1.1: Compare, of all pairs, so that both ways round are asked for.
func TestCompare(t *testing.T) {
	for _, a := range samples() {
		for _, b := range samples() {
			if got := nat.Compare(a, b); got != modelOf(a).compare(modelOf(b)) {
				t.Errorf("Compare(%v, %v): %d", a, b, got)
			}
		}
	}
}

// P1.1: Length, Tail, Count and each Bit, far above the top too.
func TestBits(t *testing.T) {
	for _, a := range samples() {
		m := modelOf(a)
		tail, count := 0, 0
		for i := len(m) - 1; i >= 0; i-- {
			if m[i] == 1 {
				tail, count = i, count+1
			}
		}
		if nat.Length(a) != len(m) || nat.Tail(a) != tail || nat.Count(a) != count {
			t.Errorf("%v: Length %d, Tail %d, Count %d", a, nat.Length(a), nat.Tail(a), nat.Count(a))
		}
		for i := range len(m) + 200 {
			if nat.Bit(a, i) != int(m.digit(i)) {
				t.Errorf("Bit(%v, %d): %d", a, i, nat.Bit(a, i))
			}
		}
		for _, i := range []int{-1, -2, -63, -64, -65, math.MinInt, math.MaxInt, 1 << 40, 1<<40 + 1} {
			if nat.Bit(a, i) != 0 {
				t.Errorf("Bit(%v, %d) is not 0", a, i)
			}
		}
	}
}

// P1.1: numbers beyond MaxBits are looked at, and Norm has no limit.
func TestLooksAtGreatNumbers(t *testing.T) {
	const n = api.MaxBits + 130
	a := append(power(n), 0, 0)
	if nat.Length(a) != n+1 || nat.Tail(a) != n || nat.Count(a) != 1 || nat.Bit(a, n) != 1 || nat.Bit(a, n-1) != 0 {
		t.Error("bits of a great number")
	}
	if v, ok := nat.Small(a); v != 0 || ok {
		t.Error("a great number is small")
	}
	if nat.Compare(a, ones(n)) != 1 || nat.Compare(ones(n), a) != -1 || nat.Compare(a, power(n)) != 0 {
		t.Error("Compare of great numbers")
	}
	wantNat(t, "Norm of a great number", nat.Norm(a), power(n))
}

// P1.1: but Norm and From none of these makes a number, however great a is.
func TestLooksMakeNothing(t *testing.T) {
	a, b := ones(1<<20), ones(1<<20)
	made := testing.AllocsPerRun(10, func() {
		nat.Small(a)
		nat.Compare(a, b)
		nat.Length(a)
		nat.Bit(a, 1<<19)
		nat.Tail(a)
		nat.Count(a)
	})
	if made != 0 {
		t.Errorf("%v pieces of memory were made", made)
	}
}
