package ratio

import (
	"surd/api"
	"surd/nat"
)

// pair is x / y; with y = 0 it is infinitely great.
type pair struct{ x, y api.Nat }

// bits is how many bits the longer one has.
func (p pair) bits() int { return max(nat.Length(p.x), nat.Length(p.y)) }

// below is p by its highest n bits, or a little less, if it has more.
func (p pair) below(n int) pair {
	if more := p.bits() - n; more > 0 {
		return pair{x: highest(p.x, more), y: sum(highest(p.y, more), api.Nat{1})}
	}
	return p
}

// above is p by its highest n bits, or a little more, if it has more.
func (p pair) above(n int) pair {
	if more := p.bits() - n; more > 0 {
		return pair{x: sum(highest(p.x, more), api.Nat{1}), y: highest(p.y, more)}
	}
	return p
}

// highest is a without its lowest bits. No more than MaxBits of them are left.
func highest(a api.Nat, lowest int) api.Nat {
	made, _ := nat.Right(a, lowest)
	return made
}

// fold is quotients of a continued fraction, one behind the other, in four
// numbers: q1 + 1/(q2 + .. 1/(qk + 1/z)) is (a z + b) / (c z + d). So a / c is
// the fraction of all of them, and b / d that without the last one. a d and b c
// are 1 apart.
type fold struct{ a, b, c, d api.Nat }

// noFold is that of no quotients.
func noFold() fold { return fold{a: nat.From(1), d: nat.From(1)} }

// foldOf is that of one quotient.
func foldOf(q api.Nat) fold { return fold{a: q, b: nat.From(1), c: nat.From(1)} }

// then is that of f's quotients and of g's behind them.
func (f fold) then(g fold) fold {
	return fold{
		a: sum(product(f.a, g.a), product(f.b, g.c)), b: sum(product(f.a, g.b), product(f.b, g.d)),
		c: sum(product(f.c, g.a), product(f.d, g.c)), d: sum(product(f.c, g.b), product(f.d, g.d)),
	}
}

// behind is p's z, where p begins with f's quotients.
func (f fold) behind(p pair) pair {
	return pair{
		x: apart(product(f.d, p.x), product(f.b, p.y)),
		y: apart(product(f.a, p.y), product(f.c, p.x)),
	}
}

// run is quotients with their fold.
type run struct {
	fold
	quotients []api.Nat
}

// noRun is none.
func noRun() run { return run{fold: noFold()} }

// runOf is one quotient.
func runOf(q api.Nat) run { return run{fold: foldOf(q), quotients: []api.Nat{q}} }

// none: are there no quotients?
func (r run) none() bool { return len(r.quotients) == 0 }

// odd: are they odd in number?
func (r run) odd() bool { return len(r.quotients)%2 > 0 }

// then is r's quotients and s's behind them.
func (r run) then(s run) run {
	if r.none() {
		return s
	}
	return run{fold: r.fold.then(s.fold), quotients: append(r.quotients, s.quotients...)}
}

// common is the quotients with which all numbers from low to high begin, and
// what low and high come to behind them: again the lesser one first.
func common(low, high pair) (run, pair, pair) {
	made := noRun()
	for !isZero(low.y) && !isZero(high.y) {
		more := sure(low, high)
		if more.none() {
			q, _ := both(low.x, low.y)
			other, _ := both(high.x, high.y)
			if nat.Compare(q, other) != 0 {
				break
			}
			more = runOf(q)
		}
		low, high = more.behind(low), more.behind(high)
		if more.odd() {
			// What was divided by is the greater, the lesser the quotient is.
			low, high = high, low
		}
		made = made.then(more)
	}
	return made, low, high
}

// sure is quotients that low and high have in common, as their highest bits
// tell: some of them, or none. What the numbers from a lesser low to a greater
// high have in common those from low to high have in common, too.
func sure(low, high pair) run {
	n := min(low.bits(), high.bits())
	n = min(max(n/2, limbBits-1), api.MaxBits)
	low, high = low.below(n), high.above(n)
	if low.bits() <= limbBits && high.bits() <= limbBits {
		return limbRun(low, high)
	}
	made, _, _ := common(low, high)
	return made
}

// limbRun is all quotients in common of numbers of a limb. No factor is greater
// than one of them; so none wraps.
func limbRun(low, high pair) run {
	x, y := limbs(low)
	v, w := limbs(high)
	var quotients []api.Nat
	a, b, c, d := uint64(1), uint64(0), uint64(0), uint64(1)
	for y > 0 && w > 0 && x/y == v/w {
		q := x / y
		x, y, v, w = y, x-q*y, w, v-q*w
		a, b, c, d = a*q+b, a, c*q+d, c
		quotients = append(quotients, nat.From(q))
	}
	f := fold{a: nat.From(a), b: nat.From(b), c: nat.From(c), d: nat.From(d)}
	return run{fold: f, quotients: quotients}
}

func limbs(p pair) (uint64, uint64) {
	x, _ := nat.Small(p.x)
	y, _ := nat.Small(p.y)
	return x, y
}
