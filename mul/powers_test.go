package mul_test

import (
	"math"
	"slices"
	"testing"

	"surd/api"
	"surd/mul"
)

// The chapter's example 3, but for Low and High.
func TestExamplesOfPowers(t *testing.T) {
	p, e := mul.Pow(nil, 0)
	wantOK(t, "Pow(0, 0)", p, e, api.Nat{1})
	p, e = mul.Pow(api.Nat{2}, 1<<26)
	wantErr(t, "Pow(2, 2^26)", e, api.ErrBig, p)
	p, e = mul.Pow(api.Nat{2}, 1<<26-1)
	wantOK(t, "Pow(2, 2^26 - 1)", p, e, power(1<<26-1))
	p, e = mul.Pow(api.Nat{1}, 1<<62)
	wantOK(t, "Pow(1, 2^62)", p, e, api.Nat{1})
}

// P2.5: Pow is a product of n factors.
func TestPow(t *testing.T) {
	for _, a := range samples() {
		want := api.Nat{1}
		for n := range 20 {
			p, e := mul.Pow(a, n)
			wantOK(t, "Pow", p, e, want)
			want = modelProduct(want, a)
		}
	}
	for n := range 300 {
		p, e := mul.Pow(api.Nat{2, 0}, n)
		wantOK(t, "Pow(2, n)", p, e, power(n))
	}
}

// P2.5: 0, 1 and greater numbers to the greatest powers.
func TestGreatPowers(t *testing.T) {
	for _, n := range []int{1, 1 << 26, 1<<40 + 1, math.MaxInt} {
		p, e := mul.Pow(api.Nat{0, 0}, n)
		wantOK(t, "Pow(0, n)", p, e, nil)
		p, e = mul.Pow(api.Nat{1, 0}, n)
		wantOK(t, "Pow(1, n)", p, e, api.Nat{1})
	}
	for _, n := range []int{1 << 26, 1<<26 + 1, 1 << 40, 1<<40 + 1, 1 << 62, math.MaxInt} {
		for _, a := range []api.Nat{{2}, {3}, {0, 1}, ones(1000), ones(api.MaxBits + 1)} {
			p, e := mul.Pow(a, n)
			wantErr(t, "Pow", e, api.ErrBig, p)
		}
	}
}

// P2.5, R6: powers of just MaxBits bits, and of more.
func TestPowersAtTheLimit(t *testing.T) {
	const far = 22369620 // 3 times it is MaxBits - 4
	p, e := mul.Pow(power(1023), 65600)
	wantOK(t, "2^1023 to the 65600", p, e, power(1023*65600))
	p, e = mul.Pow(power(1023), 65601)
	wantErr(t, "2^1023 to the 65601", e, api.ErrBig, p)
	// 27 has 5 bits, two more than each 3 has above the last one.
	p, e = mul.Pow(append(make(api.Nat, far/64), 3<<(far%64)), 3)
	wantErr(t, "3 2^far to the 3", e, api.ErrBig, p)
	p, e = mul.Pow(append(make(api.Nat, far/64), 3<<(far%64-1)), 3)
	want := append(make(api.Nat, (3*far-3)/64), 27<<((3*far-3)%64), 27>>(64-(3*far-3)%64))
	wantOK(t, "3 2^(far - 1) to the 3", p, e, want)
	// An odd number's, where only the last of its products is too great.
	p, e = mul.Pow(ones(far+2), 3)
	wantErr(t, "2^(far + 2) - 1 to the 3", e, api.ErrBig, p)

	full, over := ones(api.MaxBits), ones(api.MaxBits+1)
	p, e = mul.Pow(full, 1)
	wantOK(t, "full to the 1", p, e, full)
	p, e = mul.Pow(full, 2)
	wantErr(t, "full to the 2", e, api.ErrBig, p)
	p, e = mul.Pow(over, 1)
	wantErr(t, "over to the 1", e, api.ErrBig, p)
	p, e = mul.Pow(over, 0)
	wantOK(t, "over to the 0", p, e, api.Nat{1})
}

// P2.5: n below 0, whatever a is.
func TestPowersThatMayNotBe(t *testing.T) {
	for _, a := range []api.Nat{nil, {1}, {2}, ones(api.MaxBits + 1)} {
		for _, n := range []int{-1, -2, -1 << 40, math.MinInt} {
			p, e := mul.Pow(a, n)
			wantErr(t, "Pow", e, api.ErrArg, p)
		}
	}
}

// P2.10: the laws of powers.
func TestLawsOfPowers(t *testing.T) {
	some := samples()
	for i, a := range some {
		b := some[(7*i+3)%len(some)]
		for m := range 7 {
			for n := range 7 {
				am, an := must(t)(mul.Pow(a, m)), must(t)(mul.Pow(a, n))
				p, e := mul.Pow(a, m+n)
				wantOK(t, "a to the m + n", p, e, must(t)(mul.Mul(am, an)))
				p, e = mul.Pow(am, n)
				wantOK(t, "a to the m, to the n", p, e, must(t)(mul.Pow(a, m*n)))
				p, e = mul.Pow(must(t)(mul.Mul(a, b)), n)
				wantOK(t, "a b to the n", p, e, must(t)(mul.Mul(an, must(t)(mul.Pow(b, n)))))
			}
		}
	}
}

// P2.6: Product of none, of one, of many, in any order.
func TestProduct(t *testing.T) {
	p, e := mul.Product()
	wantOK(t, "Product of none", p, e, api.Nat{1})
	p, e = mul.Product(nil...)
	wantOK(t, "Product of no list", p, e, api.Nat{1})
	for _, a := range samples() {
		p, e = mul.Product(a)
		wantOK(t, "Product of one", p, e, a)
	}
	m := mix(4)
	for n := range 40 {
		l := make([]api.Nat, n)
		want := api.Nat{1}
		for i := range l {
			l[i] = m.nat(1 + m.below(3))
			l[i][0] |= 1
			want = modelProduct(want, l[i])
		}
		p, e = mul.Product(l...)
		wantOK(t, "Product", p, e, want)
		for i := range n / 2 {
			l[i], l[n-1-i] = l[n-1-i], l[i]
		}
		p, e = mul.Product(l...)
		wantOK(t, "Product the other way round", p, e, want)
	}
}

// P2.6: a long list, of numbers of all lengths.
func TestLongProduct(t *testing.T) {
	l := make([]api.Nat, 3000)
	for i := range l {
		l[i] = append(power(i%100), 0)
	}
	p, e := mul.Product(l...)
	wantOK(t, "Product of powers of two", p, e, power(30*99*50))
}

// P2.6: a 0 anywhere makes it 0, however great the others are.
func TestProductOfNought(t *testing.T) {
	great := ones(2 * api.MaxBits)
	for _, zero := range []api.Nat{nil, {}, {0}, {0, 0}} {
		for i := range 3 {
			l := []api.Nat{great, great, great}
			l[i] = zero
			p, e := mul.Product(l...)
			wantOK(t, "Product with a 0", p, e, nil)
		}
		p, e := mul.Product(zero)
		wantOK(t, "Product of 0", p, e, nil)
	}
}

// P2.6, R6: products of just MaxBits bits, and of one more.
func TestProductAtTheLimit(t *testing.T) {
	third := power(api.MaxBits / 4)
	p, e := mul.Product(third, third, third, power(api.MaxBits/4-1))
	wantOK(t, "Product of MaxBits bits", p, e, power(api.MaxBits-1))
	p, e = mul.Product(third, third, third, third)
	wantErr(t, "Product of one bit more", e, api.ErrBig, p)
	p, e = mul.Product(api.Nat{3}, ones(api.MaxBits-1), api.Nat{1})
	wantErr(t, "Product of one bit more by a carry", e, api.ErrBig, p)
	p, e = mul.Product(ones(api.MaxBits), api.Nat{1})
	wantOK(t, "Product of a full one and 1", p, e, ones(api.MaxBits))
	p, e = mul.Product(power(api.MaxBits))
	wantErr(t, "Product of one that is too great", e, api.ErrBig, p)
	l := make([]api.Nat, 100)
	for i := range l {
		l[i] = ones(api.MaxBits / 50)
	}
	p, e = mul.Product(l...)
	wantErr(t, "Product of a hundred", e, api.ErrBig, p)
	// Each carries: the lengths alone do not tell.
	three := make([]api.Nat, 20)
	for i := range three {
		three[i] = api.Nat{3}
	}
	one := make([]api.Nat, 21)
	for i := range one {
		one[i] = api.Nat{1}
	}
	carries := append(slices.Clone(three), power(api.MaxBits-25))
	p, e = mul.Product(append(slices.Clone(carries), one...)...)
	wantErr(t, "Product with twenty carries in the left half", e, api.ErrBig, p)
	p, e = mul.Product(append(one, carries...)...)
	wantErr(t, "Product with twenty carries in the right half", e, api.ErrBig, p)
	p, e = mul.Product(append(three, power(api.MaxBits-25))...)
	wantErr(t, "Product with twenty carries, at the right", e, api.ErrBig, p)
	p, e = mul.Product(append([]api.Nat{power(api.MaxBits - 25)}, three...)...)
	wantErr(t, "Product with twenty carries, at the left", e, api.ErrBig, p)
}
