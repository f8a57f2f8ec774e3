package mul_test

import (
	"math"
	"testing"

	"surd/api"
	"surd/mul"
	"surd/nat"
)

// way is one of the ways to take a product.
type way struct {
	name string
	of   func(a, b api.Nat) (api.Nat, api.Errno)
}

func karatsuba(cut int) way {
	return way{"Karatsuba", func(a, b api.Nat) (api.Nat, api.Errno) { return mul.Karatsuba(a, b, cut) }}
}

func toom(cut int) way {
	return way{"Toom", func(a, b api.Nat) (api.Nat, api.Errno) { return mul.Toom(a, b, cut) }}
}

func ways() []way {
	out := []way{{"Mul", mul.Mul}, {"School", mul.School}}
	for _, cut := range []int{2, 3, 4, 5, 7, 16, 1000, math.MaxInt} {
		out = append(out, karatsuba(cut))
	}
	for _, cut := range []int{3, 4, 5, 6, 8, 17, 1000, math.MaxInt} {
		out = append(out, toom(cut))
	}
	return out
}

// The chapter's example 1, and the refused one of example 4.
func TestExamplesOfProducts(t *testing.T) {
	const top = ^uint64(0)
	p, e := mul.Mul(api.Nat{0, 1}, api.Nat{0, 1})
	wantOK(t, "2^64 times 2^64", p, e, api.Nat{0, 0, 1})
	p, e = mul.Mul(api.Nat{5}, nil)
	wantOK(t, "5 times 0", p, e, nil)
	p, e = mul.Mul(api.Nat{top}, api.Nat{top})
	wantOK(t, "2^64 - 1 times itself", p, e, api.Nat{1, top - 1})
	p, e = mul.Karatsuba(api.Nat{1}, api.Nat{1}, 1)
	wantErr(t, "Karatsuba(1, 1, 1)", e, api.ErrArg, p)
}

// P2.1, P2.15, P2.8: all ways, of all pairs.
func TestProducts(t *testing.T) {
	for _, a := range samples() {
		for _, b := range samples() {
			want := modelProduct(a, b)
			for _, w := range ways() {
				p, e := w.of(a, b)
				wantOK(t, w.name, p, e, want)
			}
		}
	}
}

// P2.1: Square.
func TestSquare(t *testing.T) {
	for _, a := range samples() {
		p, e := mul.Square(a)
		wantOK(t, "Square", p, e, modelProduct(a, a))
	}
}

// P2.8: every pair of lengths up to some, by the least cuts, where parts are
// as uneven as they come: of runs of limbs, so that carries run far.
func TestWaysOfAllLengths(t *testing.T) {
	m := mix(2)
	for x := range 34 {
		for y := range x + 1 {
			for range 3 {
				a, b := m.runs(x), m.runs(y)
				want := modelProduct(a, b)
				for _, w := range []way{karatsuba(2), karatsuba(3), toom(3), toom(4)} {
					p, e := w.of(a, b)
					wantOK(t, w.name, p, e, want)
					p, e = w.of(b, a)
					wantOK(t, w.name+" the other way round", p, e, want)
				}
			}
		}
	}
}

// P2.8: lengths at which Mul takes one way or another, alone and mixed.
func TestLongProducts(t *testing.T) {
	m := mix(3)
	lengths := []int{39, 40, 41, 79, 80, 81, 120, 199, 200, 201, 301, 399, 400, 401, 601, 1303}
	for _, x := range lengths {
		for _, y := range lengths {
			a, b := m.runs(x), m.nat(y)
			want := must(t)(mul.School(a, b))
			for _, w := range []way{{"Mul", mul.Mul}, karatsuba(40), toom(40)} {
				p, e := w.of(a, b)
				wantOK(t, w.name, p, e, want)
			}
		}
	}
}

// P2.8: thirds are taken of numbers whose limbs borrow from each other.
func TestToomWithBorrows(t *testing.T) {
	const third = ^uint64(0) / 3
	for _, low := range []uint64{1, third, third + 1, 2 * third, 2*third + 1, 3 * third} {
		for _, high := range []uint64{1, third, third + 1, 2 * third, 2*third + 1} {
			a, b := api.Nat{1, 0, 0, 0, 1}, api.Nat{1, 0, low, high}
			p, e := mul.Toom(a, b, 3)
			wantOK(t, "Toom", p, e, modelProduct(a, b))
		}
	}
}

// P2.1, P2.8: (2^x - 1)(2^y - 1) is 2^(x+y) + 1 less 2^x and 2^y.
func TestGreatProducts(t *testing.T) {
	for _, x := range []int{1000, 64000, 300000, 1 << 20} {
		for _, y := range []int{1, 64, 9000, 300001, 1<<20 - 1} {
			all := sum(t, power(x+y), api.Nat{1})
			want := must(t)(nat.Sub(all, sum(t, power(x), power(y))))
			for _, w := range []way{{"Mul", mul.Mul}, karatsuba(50), toom(50)} {
				p, e := w.of(ones(x), ones(y))
				wantOK(t, w.name, p, e, want)
			}
		}
	}
}

// P2.1, P2.15: cuts that may not be, whatever the numbers are.
func TestCutsThatMayNotBe(t *testing.T) {
	for _, a := range []api.Nat{nil, {0}, {1}, {3, 4, 5}, ones(api.MaxBits + 1)} {
		for _, cut := range []int{1, 0, -1, -2, math.MinInt} {
			p, e := mul.Karatsuba(a, a, cut)
			wantErr(t, "Karatsuba", e, api.ErrArg, p)
		}
		for _, cut := range []int{2, 1, 0, -3, math.MinInt} {
			p, e := mul.Toom(a, a, cut)
			wantErr(t, "Toom", e, api.ErrArg, p)
		}
	}
}

// P2.1, P2.15, R6: products of just MaxBits bits, and of one more.
func TestProductsAtTheLimit(t *testing.T) {
	full, over, great := ones(api.MaxBits), power(api.MaxBits), ones(4*api.MaxBits)
	half := power(api.MaxBits / 2)
	ways := []way{{"Mul", mul.Mul}, {"School", mul.School}, karatsuba(2), toom(3)}
	for _, w := range ways {
		p, e := w.of(full, api.Nat{1})
		wantOK(t, w.name+" full 1", p, e, full)
		p, e = w.of(ones(api.MaxBits-1), api.Nat{2, 0})
		wantOK(t, w.name+" (half - 1) 2", p, e, must(t)(nat.Left(ones(api.MaxBits-1), 1)))
		p, e = w.of(api.Nat{2}, full)
		wantErr(t, w.name+" 2 full", e, api.ErrBig, p)
		// One more by a carry alone.
		p, e = w.of(ones(api.MaxBits-1), api.Nat{3})
		wantErr(t, w.name+" (half - 1) 3", e, api.ErrBig, p)
		p, e = w.of(over, api.Nat{1})
		wantErr(t, w.name+" over 1", e, api.ErrBig, p)
		p, e = w.of(half, half)
		wantErr(t, w.name+" 2^n 2^n", e, api.ErrBig, p)
		p, e = w.of(half, power(api.MaxBits/2-1))
		wantOK(t, w.name+" 2^n 2^(n-1)", p, e, power(api.MaxBits-1))
		p, e = w.of(great, great)
		wantErr(t, w.name+" great great", e, api.ErrBig, p)
		p, e = w.of(great, api.Nat{0, 0})
		wantOK(t, w.name+" great 0", p, e, nil)
		p, e = w.of(nil, great)
		wantOK(t, w.name+" 0 great", p, e, nil)
	}
	p, e := mul.Square(power(api.MaxBits / 2))
	wantErr(t, "Square of 2^n", e, api.ErrBig, p)
	p, e = mul.Square(power(api.MaxBits/2 - 1))
	wantOK(t, "Square of 2^(n-1)", p, e, power(api.MaxBits-2))
	p, e = mul.Square(great)
	wantErr(t, "Square of a great one", e, api.ErrBig, p)
}

// P2.9: products change sides, are taken in any order, and are spread over
// sums; the square of a sum.
func TestRing(t *testing.T) {
	some := samples()
	for i, a := range some {
		for j, b := range some {
			c := some[(3*i+5*j)%len(some)]
			ab, bc, ac := must(t)(mul.Mul(a, b)), must(t)(mul.Mul(b, c)), must(t)(mul.Mul(a, c))
			p, e := mul.Mul(b, a)
			wantOK(t, "b a", p, e, ab)
			p, e = mul.Mul(a, bc)
			wantOK(t, "a (b c)", p, e, must(t)(mul.Mul(ab, c)))
			p, e = mul.Mul(a, sum(t, b, c))
			wantOK(t, "a (b + c)", p, e, sum(t, ab, ac))
			p, e = mul.Square(sum(t, a, b))
			wantOK(t, "Square(a + b)", p, e, sum(t, must(t)(mul.Square(a)), ab, ab, must(t)(mul.Square(b))))
		}
	}
}
