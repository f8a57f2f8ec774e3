package consts

import (
	"surd/api"
	"surd/div"
	"surd/nat"
	"surd/whole"
)

const (
	// primes is how many primes a smooth number has at most: 2, 3, 5 and 7.
	primes = 4
	// finerPlaces is how many places more a logarithm's arcs are found with: it
	// is made of less than 2^13 of them, of up to MaxIndex.
	finerPlaces = 16
)

// arc is the arc tangent of rise / run, or the hyperbolic one, which is half the
// logarithm of (run + rise) / (run - rise). rise is at most half of run in size.
type arc struct {
	rise, run  int
	hyperbolic bool
}

// partOf is the arc of 1 / k.
func partOf(k int, hyperbolic bool) arc { return arc{rise: 1, run: k, hyperbolic: hyperbolic} }

// value is less than 2 steps off.
func (a arc) value(places int) api.Whole {
	square := a.rise * a.rise
	if !a.hyperbolic {
		square = -square
	}
	s := series{
		over:   func(n int) api.Whole { return whole.Of((2*n - 1) * square) },
		under:  func(n int) api.Whole { return whole.Of((2*n + 1) * a.run * a.run) },
		weight: func(n int) api.Whole { return whole.Of(1) },
	}
	return quotient(product(s.value(places), whole.Of(a.rise)), whole.Of(a.run))
}

// logarithm is twice the sum of hyperbolic arcs: those of 1/251, 1/449, 1/4801
// and 1/8749, each so many times, and one more.
type logarithm struct {
	counts [primes]int
	rest   arc
}

// logarithmOf is the logarithm of k, from 1 to MaxIndex. Where k is not smooth
// the rest is by what it differs from the nearest number that is.
func logarithmOf(k int) logarithm {
	near := smoothNear(k)
	powers, _ := powersIn(near)
	made := logarithm{rest: lowest(k-near, k+near)}
	// The logarithms of 2, 3, 5 and 7: since 252/250, 450/448, 4802/4800 and
	// 8750/8748 have no other primes, they follow from these quotients'.
	for i, row := range [primes][primes]int{
		{72, 27, -19, 31},
		{114, 43, -30, 49},
		{167, 63, -44, 72},
		{202, 76, -53, 87},
	} {
		for j, count := range row {
			made.counts[j] += powers[i] * count
		}
	}
	return made
}

// value is less than 2 steps off.
func (l logarithm) value(places int) api.Whole {
	fine := places + finerPlaces
	var made api.Whole
	if l.rest.rise != 0 {
		made = l.rest.value(fine)
	}
	for i, k := range [primes]int{251, 449, 4801, 8749} {
		made = plus(made, product(partOf(k, true).value(fine), whole.Of(l.counts[i])))
	}
	return moved(made, 1-finerPlaces)
}

// smoothNear is a number without other primes than 2, 3, 5 and 7 than which none
// is nearer to k.
func smoothNear(k int) int {
	apart := 0
	// 1 is such a number, so k - apart does not go below it.
	for !isSmooth(k-apart) && !isSmooth(k+apart) {
		apart++
	}
	if isSmooth(k - apart) {
		return k - apart
	}
	return k + apart
}

func isSmooth(n int) bool {
	_, left := powersIn(n)
	return left == 1
}

// powersIn is how often n has each of the primes 2, 3, 5 and 7, and what is left
// of it without them.
func powersIn(n int) (powers [primes]int, left int) {
	for i, prime := range [primes]int{2, 3, 5, 7} {
		for ; n%prime == 0; n /= prime {
			powers[i]++
		}
	}
	return powers, n
}

// lowest is the hyperbolic arc of rise / run in lowest terms.
func lowest(rise, run int) arc {
	common, _ := nat.Small(div.Gcd(whole.Of(rise).Abs, whole.Of(run).Abs))
	return arc{rise: rise / int(common), run: run / int(common), hyperbolic: true}
}
