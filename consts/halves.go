package consts

import (
	"surd/api"
	"surd/nat"
	"surd/whole"
)

const (
	// fewestTerms is how many terms a run has at least: they make what follows
	// so much less that it is asked for with fewer places each time.
	fewestTerms = 4
	// fewestBits is how many bits a run's denominators may have together,
	// however few places are asked for.
	fewestBits = 256
)

// series is the sum of terms, the n-th of which is weight(n) times the product
// of over(j) / under(j) for all j from 1 to n. Each term is at most half of the
// one before in size, and so is each over / under at most 1/2; unders and
// weights are above 0.
type series struct {
	over, under, weight func(n int) api.Whole
}

// value is the whole sum, less than 2 steps of 2^-places off.
func (s series) value(places int) api.Whole {
	return plus(moved(s.weight(0), places), s.from(1, places))
}

// from is what the terms from the n-th on come to, through the product of all
// quotients ahead of n: at most weight(n). It is less than 2 steps of 2^-places
// off, where places may be below 0.
//
// The terms are taken by runs. What follows a run is asked for with so many
// places less that not more than half a step of it is left in the end; the
// division adds one, and the sum half of one at most, where it is moved down.
func (s series) from(n, places int) api.Whole {
	if places+nat.Length(s.weight(n).Abs) <= 0 {
		return api.Whole{}
	}
	to := s.end(n, places)
	under, over, sum := s.run(n, to)
	// over / under is less than 2^-(fewer + 2).
	fewer := nat.Length(under.Abs) - nat.Length(over.Abs) - 3
	follows := moved(product(over, s.from(to, places-fewer)), fewer)
	return quotient(plus(moved(sum, places), follows), under)
}

// end is where a run from n on ends: its denominators' product has about as
// many bits as there are places. With more of them the products would be
// longer than what they are for, and with fewer there would be more divisions.
func (s series) end(n, places int) int {
	most := max(places, fewestBits)
	fits := func(count int) bool { return count*nat.Length(s.under(n+count).Abs) <= most }
	count := fewestTerms
	for fits(2 * count) {
		count *= 2
	}
	for step := count / 2; step > 0; step /= 2 {
		if fits(count + step) {
			count += step
		}
	}
	return n + count
}

// run tells of the terms from one on and ahead of another one the product of
// the denominators, that of the numerators, and the sum through the first of
// these: what from is at the one place is the sum, and over times what it is at
// the other one, through under.
func (s series) run(from, to int) (under, over, sum api.Whole) {
	var between func(from, to int) (under, over, sum api.Whole)
	between = func(from, to int) (under, over, sum api.Whole) {
		if to-from == 1 {
			over = s.over(from)
			return s.under(from), over, product(s.weight(from), over)
		}
		half := from + (to-from)/2
		under, over, sum = between(from, half)
		u, o, more := between(half, to)
		return product(under, u), product(over, o), plus(product(sum, u), product(over, more))
	}
	return between(from, to)
}

// The functions below are asked for numbers of at most some 2^26 bits.

// moved is a times 2^n, rounded down.
func moved(a api.Whole, n int) api.Whole { return sure(whole.Shift(a, n)) }

func plus(a, b api.Whole) api.Whole { return sure(whole.Add(a, b)) }

func minus(a, b api.Whole) api.Whole { return sure(whole.Sub(a, b)) }

func product(a, b api.Whole) api.Whole { return sure(whole.Mul(a, b)) }

// quotient is a / b, rounded down.
func quotient(a, b api.Whole) api.Whole {
	made, _, _ := whole.Floor(a, b)
	return made
}

// sure is what a call of a layer below answers that refuses nothing.
func sure(a api.Whole, _ api.Errno) api.Whole { return a }
