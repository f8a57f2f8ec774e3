package numeral_test

import (
	"math"
	"slices"
	"testing"

	"surd/api"
	"surd/nat"
	"surd/numeral"
)

// wantLength asks Length for that many.
func wantLength(t *testing.T, a api.Nat, base, want int) {
	t.Helper()
	if got, e := numeral.Length(a, base); got != want || e != api.OK {
		t.Errorf("Length of %d bits in base %d: %d, error %d, not %d", nat.Length(a), base, got, e, want)
	}
}

// wantDigits asks Digits for that list.
func wantDigits(t *testing.T, a api.Nat, base int, want ...int) {
	t.Helper()
	if got, e := numeral.Digits(a, base); !slices.Equal(got, want) || e != api.OK {
		t.Errorf("Digits of %d bits in base %d: %d of them, error %d, not %d", nat.Length(a), base, len(got), e, len(want))
	}
}

// wantBuild asks Build for that number.
func wantBuild(t *testing.T, want api.Nat, base int, digits ...int) {
	t.Helper()
	got, e := numeral.Build(base, digits...)
	wantOK(t, "Build", got, e, want)
}

// wantNoBuild asks Build for that error.
func wantNoBuild(t *testing.T, want api.Errno, base int, digits ...int) {
	t.Helper()
	got, e := numeral.Build(base, digits...)
	wantErr(t, "Build", e, want, got)
}

// P5.2: the examples.
func TestListExamples(t *testing.T) {
	wantLength(t, nat.From(1000), 10, 4)
	wantLength(t, nil, 10, 1)
	wantDigits(t, nat.From(12), 10, 1, 2)
	wantBuild(t, nat.From(12), 10, 1, 2)
	wantBuild(t, nil, 10)
	wantNoBuild(t, api.ErrTextDigit, 10, 10)
	wantNoBuild(t, api.ErrTextDigit, 10, -1)
}

// P5.2: of 0 there is one digit, 0, in whatever shape it is.
func TestListOfNought(t *testing.T) {
	for base := leastBase; base <= mostBase; base++ {
		for _, a := range []api.Nat{nil, {}, {0}, {0, 0, 0}} {
			wantLength(t, a, base, 1)
			wantDigits(t, a, base, 0)
		}
		wantBuild(t, nil, base)
		wantBuild(t, nil, base, []int{}...)
		wantBuild(t, nil, base, 0)
		wantBuild(t, nil, base, make([]int, 2000)...)
	}
}

// P5.2: numbers in all shapes, there and back, as digit by digit.
func TestListsDigitByDigit(t *testing.T) {
	m := mix(7)
	some := append(samples(), m.full(53), m.runs(120), m.full(250))
	for base := leastBase; base <= mostBase; base++ {
		for _, a := range some {
			want := modelDigits(t, a, base)
			wantLength(t, a, base, len(want))
			wantDigits(t, a, base, want...)
			wantBuild(t, a, base, want...)
			wantBuild(t, a, base, append([]int{0, 0}, want...)...)
		}
	}
}

// P5.2: a digit more from each power of the base on.
func TestLengthAroundPowers(t *testing.T) {
	one := nat.From(1)
	for base := leastBase; base <= mostBase; base++ {
		a := nat.From(uint64(base))
		for n := 1; n < 400; n++ {
			wantLength(t, minus(t, a, one), base, n)
			wantLength(t, a, base, n+1)
			wantLength(t, plus(t, a, one), base, n+1)
			a = must(t)(nat.Times(a, uint64(base)))
		}
		for _, n := range []int{1000, 4096, 30000} {
			a := powerOf(t, base, n)
			wantLength(t, minus(t, a, one), base, n)
			wantLength(t, a, base, n+1)
			wantLength(t, plus(t, a, one), base, n+1)
		}
	}
}

// P5.2: a power and a little more or less, so that it does not show in the
// highest bits.
func TestLengthNearPowers(t *testing.T) {
	for _, base := range []int{3, 10, 35} {
		for _, n := range []int{50, 500, 5000} {
			a := powerOf(t, base, n)
			for shift := 0; shift < nat.Length(a)-2; shift += 1 + shift/4 {
				wantLength(t, minus(t, a, power(shift)), base, n)
				wantLength(t, plus(t, a, power(shift)), base, n+1)
			}
		}
	}
}

// P5.2, R6: a number of MaxBits bits, or more of them, has as many digits as
// its bits say, and that shows at once.
func TestLengthOfGreatNumbers(t *testing.T) {
	for _, n := range []int{api.MaxBits, api.MaxBits + 1, 2*api.MaxBits + 12345, 4 * api.MaxBits} {
		a := ones(n)
		for base := leastBase; base <= mostBase; base++ {
			exact := float64(n) / math.Log2(float64(base))
			if far := math.Abs(exact - math.Round(exact)); far < 1e-5 && base&(base-1) != 0 {
				t.Fatalf("the test can't tell for %d bits in base %d", n, base)
			}
			wantLength(t, a, base, int(math.Ceil(exact)))
		}
	}
}

// P5.2: so does one of many bits that lies at a power of the base.
func TestLengthOfGreatPowers(t *testing.T) {
	const n = 2000000
	a := powerOf(t, 10, n)
	wantLength(t, minus(t, a, nat.From(1)), 10, n)
	wantLength(t, a, 10, n+1)
}

// P5.2, R6: also if that power has more than MaxBits bits: 24^n is 3^n times
// 2^(3n).
func TestLengthOfPowersBeyondMaxBits(t *testing.T) {
	const n = 14640000
	odd := powerOf(t, 3, n)
	a := append(make(api.Nat, 3*n/64), odd...)
	if nat.Length(a) <= api.MaxBits || 3*n%64 != 0 {
		t.Fatal("24^n is not of more bits than may be")
	}
	wantLength(t, a, 24, n+1)
}

// P5.2: the least numbers of 2^64 and more, whose powers are no longer exact.
func TestLengthOfTwoLimbs(t *testing.T) {
	for base := leastBase; base <= mostBase; base++ {
		for _, a := range []api.Nat{ones(64), power(64), {1, 1}, {math.MaxUint64, 1}, ones(65), power(127), ones(128), power(128)} {
			wantLength(t, a, base, len(modelDigits(t, a, base)))
		}
	}
}

// P5.2: a base that there is not, ahead of all else.
func TestListsInNoBase(t *testing.T) {
	for _, base := range noBases() {
		for _, a := range []api.Nat{nil, {0}, {5}, {1, 2, 3}} {
			if n, e := numeral.Length(a, base); n != 0 || e != api.ErrTextBase {
				t.Errorf("Length in base %d: %d, error %d", base, n, e)
			}
			if l, e := numeral.Digits(a, base); len(l) != 0 || e != api.ErrTextBase {
				t.Errorf("Digits in base %d: %v, error %d", base, l, e)
			}
		}
		wantNoBuild(t, api.ErrTextBase, base)
		wantNoBuild(t, api.ErrTextBase, base, 0)
		wantNoBuild(t, api.ErrTextBase, base, -1)
		wantNoBuild(t, api.ErrTextBase, base, 1, 99)
	}
}

// P5.2: ints that are no digits, wherever they stand, also if their lowest
// bits are a digit's.
func TestBuildOfWrongDigits(t *testing.T) {
	for base := leastBase; base <= mostBase; base++ {
		for _, fault := range []int{base, base + 1, -1, -base, 36, 99, 256, 257, 1 << 32, -256, math.MinInt, math.MaxInt} {
			wantNoBuild(t, api.ErrTextDigit, base, fault)
			wantNoBuild(t, api.ErrTextDigit, base, 1, fault)
			wantNoBuild(t, api.ErrTextDigit, base, fault, 1)
			wantNoBuild(t, api.ErrTextDigit, base, 0, fault, 0)
		}
		wantBuild(t, nat.From(uint64(base-1)), base, base-1)
	}
	digits := make([]int, 3000)
	for _, at := range []int{0, 1, 1500, 2999} {
		digits[at] = 10
		wantNoBuild(t, api.ErrTextDigit, 10, digits...)
		digits[at] = 9
	}
}

// R6: a number of MaxBits bits is built, one with a bit more is ErrBig, which
// stands behind a wrong digit.
func TestBuildAtMaxBits(t *testing.T) {
	digits := make([]int, api.MaxBits/5+1)
	digits[0] = 15
	for i := range digits[1:] {
		digits[1+i] = 31
	}
	wantBuild(t, ones(api.MaxBits), 32, digits...)
	wantDigits(t, ones(api.MaxBits), 32, digits...)
	digits[0] = 16
	wantNoBuild(t, api.ErrBig, 32, digits...)
	digits[len(digits)-1] = 32
	wantNoBuild(t, api.ErrTextDigit, 32, digits...)
}
