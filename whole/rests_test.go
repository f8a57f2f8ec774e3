package whole_test

import (
	"testing"

	"surd/api"
	"surd/div"
	"surd/nat"
	"surd/whole"
)

// wantCrt asks for that number and that multiple.
func wantCrt(t *testing.T, r, m []api.Whole, x, all api.Whole) {
	t.Helper()
	gotX, gotAll, e := whole.Crt(r, m)
	wantOK(t, "Crt's x", gotX, e, x)
	wantOK(t, "Crt's M", gotAll, e, all)
}

// P6.17: known ones.
func TestKnownRests(t *testing.T) {
	wantCrt(t, list(2, 3, 2), list(3, 5, 7), of(23), of(105))
	wantCrt(t, list(-1, 3), list(6, 4), of(11), of(12))
	wantCrt(t, nil, nil, of(0), of(1))
	wantCrt(t, nil, []api.Whole{}, of(0), of(1))
	wantCrt(t, list(17), list(1), of(0), of(1))
	wantCrt(t, list(-17), list(5), of(3), of(5))
	wantCrt(t, list(8, 8, 8), list(4, 4, 6), of(8), of(12))
	wantCrt(t, list(1, 1), list(1<<62, 1<<61), of(1), of(1<<62))
}

// P6.17: all small rests, counted out.
func TestSmallRests(t *testing.T) {
	for _, m := range [][3]int{{1, 1, 1}, {2, 3, 5}, {4, 6, 9}, {6, 10, 15}, {8, 4, 2}, {7, 7, 1}, {12, 18, 8}} {
		all := 1
		for all%m[0]+all%m[1]+all%m[2] > 0 {
			all++
		}
		for i := range m[0] * m[1] * m[2] {
			r := [3]int{i%m[0] - m[0], i / m[0] % m[1], i/m[0]/m[1] + m[2]}
			want := -1
			for x := all - 1; x >= 0; x-- {
				if (x-r[0])%m[0] == 0 && (x-r[1])%m[1] == 0 && (x-r[2])%m[2] == 0 {
					want = x
				}
			}
			if want >= 0 {
				wantCrt(t, list(r[:]...), list(m[:]...), of(want), of(all))
				continue
			}
			x, by, e := whole.Crt(list(r[:]...), list(m[:]...))
			wantErr(t, "Crt", e, api.ErrWholeInverse, x, by)
		}
	}
}

// P6.17, P6.18: the rests of a drawn number, some of whose divisors have
// divisors in common: x leaves each of them, and is its rest by M.
func TestDrawnRests(t *testing.T) {
	m := mix(11)
	for i := range 300 {
		secret := api.Whole{Neg: i%2 > 0, Abs: m.nat(1 + m.below(8))}
		var r, by []api.Whole
		all := api.Nat{1}
		for range m.below(7) {
			size := m.nat(1 + m.below(4))
			size[0] |= 2
			if len(by) > 0 && m.below(2) == 0 {
				size = div.Gcd(size, by[m.below(len(by))].Abs)
			}
			by = append(by, above(size))
			r = append(r, must(t)(whole.Add(secret, must(t)(whole.Mul(api.Whole{Neg: m.below(2) == 0, Abs: m.nat(1)}, above(size))))))
			all, _ = div.Lcm(all, size)
		}
		_, want, e := whole.Euclid(secret, above(all))
		wantOK(t, "Euclid", want, e, want)
		wantCrt(t, r, by, want, above(all))
	}
}

// P6.17: no number leaves rests that contradict each other, also where only
// the last two do.
func TestNoRests(t *testing.T) {
	for _, c := range [][2][]api.Whole{
		{list(1, 2), list(6, 4)}, {list(0, 1), list(7, 7)}, {list(1, 1, 0), list(3, 10, 20)}, {list(0, 0, 0, 1), list(9, 4, 25, 6)}, {list(5, -5), list(100, 100)},
	} {
		x, by, e := whole.Crt(c[0], c[1])
		wantErr(t, "Crt", e, api.ErrWholeInverse, x, by)
	}
}

// P6.17: lists of different lengths, and divisors that are not above 0, ahead
// of rests that contradict.
func TestWrongRests(t *testing.T) {
	for _, c := range [][2][]api.Whole{
		{list(1), nil}, {nil, list(1)}, {list(1, 2), list(3)}, {list(1), list(3, 4)}, {list(1, 2, 3), list(2, 2)},
		{list(1), list(0)}, {list(1), list(-3)}, {list(1, 2), list(5, 0)}, {list(1, 2), list(-1, 5)}, {list(0, 1, 5), list(7, 7, 0)},
		{list(0, 1), []api.Whole{of(7), below(nil)}}, {list(0), []api.Whole{above(api.Nat{0, 0})}}, {list(0, 1, 1), []api.Whole{of(7), of(7), below(power(api.MaxBits))}},
	} {
		x, by, e := whole.Crt(c[0], c[1])
		wantErr(t, "Crt", e, api.ErrArg, x, by)
	}
}

// P6.17, R6: ErrBig is asked of the answers, behind rests that contradict.
func TestRestsAtTheLimitOfCrt(t *testing.T) {
	const n = api.MaxBits
	full, half, over := ones(n), power(n-1), power(n)
	wantCrt(t, []api.Whole{above(over), of(-2)}, []api.Whole{above(half), of(2)}, of(0), above(half))
	wantCrt(t, []api.Whole{of(-1)}, []api.Whole{above(full)}, above(append(api.Nat{^uint64(0) - 1}, full[1:]...)), above(full))
	wantCrt(t, []api.Whole{above(over), above(over)}, []api.Whole{above(full), of(3)}, of(1), above(full))
	for _, c := range [][2][]api.Whole{
		{list(1), {above(over)}}, {list(1, 1), {above(half), of(3)}}, {list(0, 0, 0), {above(half), of(3), of(5)}}, {list(1, 1), {above(full), of(2)}},
	} {
		x, by, e := whole.Crt(c[0], c[1])
		wantErr(t, "Crt", e, api.ErrBig, x, by)
	}
	for _, c := range [][2][]api.Whole{
		{list(1, 0), {above(over), of(2)}}, {list(0, 1, 2), {above(half), of(3), of(3)}}, {list(0, 1), {above(power(n + 1)), above(over)}},
	} {
		x, by, e := whole.Crt(c[0], c[1])
		wantErr(t, "Crt", e, api.ErrWholeInverse, x, by)
	}
}

// P6.17: many rests end soon.
func TestManyRests(t *testing.T) {
	var r, m []api.Whole
	all := api.Nat{1}
	for i := range 3000 {
		r, m = append(r, of(-i)), append(m, of(i+1))
		all, _ = div.Lcm(all, api.Nat{uint64(i + 1)})
	}
	// Each leaves 1 by i + 1 less than 1 does.
	wantCrt(t, r, m, of(1), above(all))
	x, by, e := whole.Crt(append(r, of(0)), append(m, of(2)))
	wantErr(t, "Crt", e, api.ErrWholeInverse, x, by)
	if nat.Length(all) < 4000 {
		t.Errorf("only %d bits", nat.Length(all))
	}
}
