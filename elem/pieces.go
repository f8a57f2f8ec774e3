package elem

import (
	"math/bits"

	"surd/api"
	"surd/dyadic"
	"surd/rounded"
	"surd/whole"
)

// A long argument is taken to pieces: its bits up to place 8, those from there to
// place 16, to 32, and so on. Each piece is a short number through a power of
// two, and the farther its bits go, the less it is: so the sum of its series by
// halves is short work, for each piece about the same.

const (
	// firstPiece is up to which place the first piece goes.
	firstPiece = 8
	// sparePieces is how many places more than asked for are kept: there are less
	// than 32 pieces, and each of them adds less than 64 steps.
	sparePieces = 12
)

// exponentialByPieces is exp r, r being at most 1 in size; it is less than 2
// steps off.
func exponentialByPieces(r api.Dyadic, w places) api.Dyadic {
	made, fine := one(), w+sparePieces
	for sine, cosine := range fine.pieces(r, false) {
		made = fine.product(made, plus(sine, cosine))
	}
	return w.rounded(made)
}

// circleByPieces is sine and cosine of r, which is at most 1 in size; they are
// less than 2 steps off.
func circleByPieces(r api.Dyadic, w places) (sine, cosine api.Dyadic) {
	fine := w + sparePieces
	cosine = one()
	for s, c := range fine.pieces(r, true) {
		sine, cosine = fine.rounded(plus(times(sine, c), times(cosine, s))),
			fine.rounded(minus(times(cosine, c), times(sine, s)))
	}
	return w.rounded(sine), w.rounded(cosine)
}

// pieces tells sine and cosine of each piece of r: round ones, or hyperbolic
// ones. The sines are less than 2 steps off, the cosines less than 5.
func (w places) pieces(r api.Dyadic, round bool) func(yield func(sine, cosine api.Dyadic) bool) {
	return func(yield func(sine, cosine api.Dyadic) bool) {
		left := w.rounded(r)
		for at := places(firstPiece); dyadic.Sign(left) != 0; at *= 2 {
			piece := min(at, w).rounded(left)
			left = minus(left, piece)
			if dyadic.Sign(piece) == 0 {
				continue
			}
			sine := w.pieceSine(piece, round)
			square := times(sine, sine)
			if round {
				square = opposite(square)
			}
			if !yield(sine, w.root(plus(one(), square))) {
				return
			}
		}
	}
}

// pieceSine is the sine of a piece: it times the sum of the products that begin
// with 1 and go on by its square, or the opposite of it, through 2n (2n + 1).
func (w places) pieceSine(piece api.Dyadic, round bool) api.Dyadic {
	square, _ := whole.Mul(piece.Man, piece.Man)
	square.Neg = round
	h := halves{square: square, shift: -2 * piece.Exp}
	n := w.terms(piece)
	_, den, num := h.sum(0, n)
	sum, _ := rounded.Quo(api.Dyadic{Man: num, Exp: -n * h.shift}, api.Dyadic{Man: den}, -int(w), api.Near)
	return w.product(piece, plus(sum, one()))
}

// terms is how many terms of a piece's sum are worth a step.
func (w places) terms(piece api.Dyadic) int {
	top, _ := dyadic.Top(piece)
	n := 0
	for left := int(w); left > 0; {
		n++
		left += 2*(top+1) - (bits.Len(uint(2*n)) - 1) - (bits.Len(uint(2*n+1)) - 1)
	}
	return n
}

// halves is a series whose n-th quotient is square 2^-shift / (2n (2n + 1)).
type halves struct {
	square api.Whole
	shift  int
}

// sum is what the products of the quotients from + 1 to n, for n up to to, come
// to: num / den, times 2^-shift for each n. The product of the numerators is
// over.
func (h halves) sum(from, to int) (over, den, num api.Whole) {
	if to-from == 1 {
		return h.square, whole.Of(2 * to * (2*to + 1)), h.square
	}
	middle := (from + to) / 2
	over, den, num = h.sum(from, middle)
	overNext, denNext, numNext := h.sum(middle, to)
	num, _ = whole.Shift(product(num, denNext), h.shift*(to-middle))
	num, _ = whole.Add(num, product(over, numNext))
	return product(over, overNext), product(den, denNext), num
}

func product(a, b api.Whole) api.Whole {
	made, _ := whole.Mul(a, b)
	return made
}
