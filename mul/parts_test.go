package mul_test

import (
	"math"
	"testing"

	"surd/api"
	"surd/mul"
	"surd/nat"
)

// places are limbs' places to split at.
func places() []int { return []int{0, 1, 2, 3, 5, 8, 40, 1 << 40, 1<<40 + 1, math.MaxInt} }

// bitPlaces are bits' places to cut at.
func bitPlaces() []int {
	return []int{0, 1, 2, 63, 64, 65, 127, 128, 129, 200, 640, 1000, 5000, 1 << 40, 1<<40 + 1, math.MaxInt - 1, math.MaxInt}
}

// The chapter's example 2, and what example 3 says of Low and High.
func TestExamplesOfParts(t *testing.T) {
	l, h, e := mul.Split(api.Nat{7, 8, 9}, 1)
	wantOK(t, "Split(7 8 9, 1), low", l, e, api.Nat{7})
	wantOK(t, "Split(7 8 9, 1), high", h, e, api.Nat{8, 9})
	l, h, e = mul.Split(api.Nat{7}, 3)
	wantOK(t, "Split(7, 3), low", l, e, api.Nat{7})
	wantOK(t, "Split(7, 3), high", h, e, nil)
	l, m, h, e := mul.Parts(api.Nat{3, 2}, api.Nat{5, 4}, 1)
	wantOK(t, "Parts, low", l, e, api.Nat{15})
	wantOK(t, "Parts, middle", m, e, api.Nat{22})
	wantOK(t, "Parts, high", h, e, api.Nat{8})
	l, e = mul.Low(api.Nat{1 << 63, 1}, api.Nat{2}, 64)
	wantOK(t, "Low", l, e, nil)
	h, e = mul.High(api.Nat{1 << 63, 1}, api.Nat{2}, 64)
	wantOK(t, "High", h, e, api.Nat{3})
}

// P2.2: Split: low is the limbs below k, high the others.
func TestSplit(t *testing.T) {
	for _, a := range samples() {
		for _, k := range places() {
			l, h, e := mul.Split(a, k)
			n := min(k, len(a))
			wantOK(t, "low", l, e, a[:n])
			wantOK(t, "high", h, e, a[n:])
		}
	}
}

// P2.2, R6: numbers of more than MaxBits bits, parted into some of fewer.
func TestSplitAtTheLimit(t *testing.T) {
	const k = api.MaxBits / 64
	l, h, e := mul.Split(ones(2*api.MaxBits), k)
	wantOK(t, "low half", l, e, ones(api.MaxBits))
	wantOK(t, "high half", h, e, ones(api.MaxBits))
	l, h, e = mul.Split(ones(2*api.MaxBits), k+1)
	wantErr(t, "low too great", e, api.ErrBig, l, h)
	l, h, e = mul.Split(ones(2*api.MaxBits), k-1)
	wantErr(t, "high too great", e, api.ErrBig, l, h)
	l, h, e = mul.Split(power(api.MaxBits+5), math.MaxInt)
	wantErr(t, "all of it low", e, api.ErrBig, l, h)
	l, h, e = mul.Split(power(2*api.MaxBits-1), k+1)
	wantOK(t, "a low part of noughts", l, e, nil)
	wantOK(t, "the high part over it", h, e, power(api.MaxBits-65))
}

// P2.3, P2.11: Parts are the products of the split numbers, and Karatsuba's
// identity holds.
func TestParts(t *testing.T) {
	for _, a := range samples() {
		for _, b := range samples() {
			for _, k := range places() {
				aLow, aHigh, _ := mul.Split(a, k)
				bLow, bHigh, _ := mul.Split(b, k)
				l, m, h, e := mul.Parts(a, b, k)
				wantOK(t, "low", l, e, modelProduct(aLow, bLow))
				wantOK(t, "middle", m, e, sum(t, modelProduct(aLow, bHigh), modelProduct(aHigh, bLow)))
				wantOK(t, "high", h, e, modelProduct(aHigh, bHigh))

				across := must(t)(mul.Mul(sum(t, aLow, aHigh), sum(t, bLow, bHigh)))
				wantNat(t, "across", across, sum(t, m, l, h))
				if k > len(a) && k > len(b) {
					continue
				}
				whole := sum(t, must(t)(nat.Left(h, 128*k)), must(t)(nat.Left(m, 64*k)), l)
				wantNat(t, "the whole", whole, modelProduct(a, b))
			}
		}
	}
}

// P2.3, R6: each of the three alone may be too great.
func TestPartsAtTheLimit(t *testing.T) {
	const k = api.MaxBits / 64
	shifted := func(a api.Nat) api.Nat { return append(make(api.Nat, k), a...) }
	half, over := power(api.MaxBits-1), power(api.MaxBits)

	l, m, h, e := mul.Parts(half, api.Nat{1}, k)
	wantOK(t, "low", l, e, half)
	wantOK(t, "middle 0", m, e, nil)
	wantOK(t, "high 0", h, e, nil)
	l, m, h, e = mul.Parts(half, api.Nat{2}, k)
	wantErr(t, "low too great", e, api.ErrBig, l, m, h)

	l, m, h, e = mul.Parts(half, shifted(api.Nat{1}), k)
	wantOK(t, "low 0", l, e, nil)
	wantOK(t, "middle", m, e, half)
	wantOK(t, "high 0", h, e, nil)
	l, m, h, e = mul.Parts(half, shifted(api.Nat{2}), k)
	wantErr(t, "middle too great", e, api.ErrBig, l, m, h)
	l, m, h, e = mul.Parts(shifted(api.Nat{2}), half, k)
	wantErr(t, "middle too great by the other side", e, api.ErrBig, l, m, h)

	quarter := power(api.MaxBits - 2)
	both := sum(t, quarter)
	both = append(both, quarter...) // quarter in both halves
	two := append(api.Nat{2}, make(api.Nat, k-1)...)
	l, m, h, e = mul.Parts(both, append(two, 2), k)
	wantErr(t, "the middle's sum too great", e, api.ErrBig, l, m, h)
	one := append(api.Nat{1}, make(api.Nat, k-1)...)
	l, m, h, e = mul.Parts(both, append(one, 1), k)
	wantOK(t, "low", l, e, quarter)
	wantOK(t, "the middle's sum", m, e, half)
	wantOK(t, "high", h, e, quarter)

	l, m, h, e = mul.Parts(shifted(over), shifted(api.Nat{1}), k)
	wantErr(t, "high too great", e, api.ErrBig, l, m, h)
	l, m, h, e = mul.Parts(ones(4*api.MaxBits), api.Nat{0}, k)
	wantOK(t, "low of a great one and 0", l, e, nil)
	wantOK(t, "middle of them", m, e, nil)
	wantOK(t, "high of them", h, e, nil)
}

// P2.4, P2.12: Low is the product's low bits, High the others.
func TestLowHigh(t *testing.T) {
	for _, a := range samples() {
		for _, b := range samples() {
			p := modelProduct(a, b)
			for _, k := range bitPlaces() {
				n := min(k, 64*len(p))
				l, e := mul.Low(a, b, k)
				wantOK(t, "Low", l, e, must(t)(nat.Low(p, n)))
				h, e := mul.High(a, b, k)
				wantOK(t, "High", h, e, must(t)(nat.Right(p, n)))
				if n == k {
					wantNat(t, "High 2^k + Low", sum(t, must(t)(nat.Left(h, k)), l), must(t)(mul.Mul(a, b)))
				}
			}
		}
	}
}

// P2.4: ErrBig is asked of the answer, not of the product.
func TestLowHighAtTheLimit(t *testing.T) {
	half, great := power(api.MaxBits-1), ones(api.MaxBits+100)

	l, e := mul.Low(half, half, api.MaxBits)
	wantOK(t, "Low of a product that is too great", l, e, nil)
	l, e = mul.Low(great, api.Nat{1}, api.MaxBits)
	wantOK(t, "Low(great, 1, MaxBits)", l, e, ones(api.MaxBits))
	l, e = mul.Low(great, api.Nat{1}, api.MaxBits+1)
	wantErr(t, "Low(great, 1, MaxBits + 1)", e, api.ErrBig, l)
	l, e = mul.Low(great, great, 70)
	wantOK(t, "Low(great, great, 70)", l, e, api.Nat{1})
	l, e = mul.Low(great, great, math.MaxInt)
	wantErr(t, "Low(great, great, MaxInt)", e, api.ErrBig, l)
	l, e = mul.Low(power(api.MaxBits+20), api.Nat{1 << 40, 1}, api.MaxBits+60)
	wantOK(t, "Low far over MaxBits, of noughts", l, e, nil)
	l, e = mul.Low(power(api.MaxBits+20), api.Nat{1 << 39}, api.MaxBits+60)
	wantErr(t, "Low far over MaxBits, one bit below k", e, api.ErrBig, l)
	l, e = mul.Low(great, api.Nat{0}, math.MaxInt)
	wantOK(t, "Low(great, 0, MaxInt)", l, e, nil)
	l, e = mul.Low(ones(api.MaxBits), api.Nat{1}, api.MaxBits+5)
	wantOK(t, "Low of all of MaxBits bits", l, e, ones(api.MaxBits))
	// 9 2^(MaxBits - 1) has one bit more than its factors' lengths tell, and
	// that bit is cut off.
	three := append(make(api.Nat, api.MaxBits/64-1), 1<<63, 1)
	l, e = mul.Low(three, api.Nat{3}, api.MaxBits+2)
	wantOK(t, "Low without the highest bit", l, e, half)
	l, e = mul.Low(three, api.Nat{3}, api.MaxBits+3)
	wantErr(t, "Low with the highest bit", e, api.ErrBig, l)
	l, e = mul.Low(great, api.Nat{2}, api.MaxBits)
	wantOK(t, "Low(great, 2, MaxBits)", l, e, must(t)(nat.Sub(ones(api.MaxBits), api.Nat{1})))

	h, e := mul.High(half, half, api.MaxBits)
	wantOK(t, "High of a product that is too great", h, e, power(api.MaxBits-2))
	h, e = mul.High(half, half, api.MaxBits-1)
	wantOK(t, "High of MaxBits bits", h, e, half)
	h, e = mul.High(half, half, api.MaxBits-2)
	wantErr(t, "High of one bit more", e, api.ErrBig, h)
	h, e = mul.High(great, api.Nat{3}, 101)
	wantErr(t, "High of one bit more by a carry", e, api.ErrBig, h)
	h, e = mul.High(great, api.Nat{3}, 102)
	wantOK(t, "High of just MaxBits", h, e, must(t)(nat.Sub(sum(t, half, ones(api.MaxBits-1)), power(api.MaxBits-2))))
	h, e = mul.High(great, great, math.MaxInt)
	wantOK(t, "High(great, great, MaxInt)", h, e, nil)
	h, e = mul.High(great, great, 0)
	wantErr(t, "High(great, great, 0)", e, api.ErrBig, h)
	h, e = mul.High(nil, great, 0)
	wantOK(t, "High(0, great, 0)", h, e, nil)
}

// P2.2 to P2.4: k below 0, whatever the numbers are.
func TestPlacesThatMayNotBe(t *testing.T) {
	for _, a := range []api.Nat{nil, {7}, {1, 2, 3}, ones(2*api.MaxBits + 1)} {
		for _, k := range []int{-1, -2, -64, -1 << 40, math.MinInt} {
			l, h, e := mul.Split(a, k)
			wantErr(t, "Split", e, api.ErrArg, l, h)
			l, m, h, e := mul.Parts(a, a, k)
			wantErr(t, "Parts", e, api.ErrArg, l, m, h)
			l, e = mul.Low(a, a, k)
			wantErr(t, "Low", e, api.ErrArg, l)
			h, e = mul.High(a, a, k)
			wantErr(t, "High", e, api.ErrArg, h)
		}
	}
}
