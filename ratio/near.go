package ratio

import (
	"surd/api"
	"surd/nat"
	"surd/whole"
)

// Simplest: of all rationals between two the one with the least denominator.
func Simplest(a, b api.Ratio) (api.Ratio, api.Errno) {
	return face(func() api.Ratio {
		meant(a, b)
		refuse(compare(a, b) > 0, api.ErrArg)
		switch {
		case whole.Sign(a.Num) > 0:
			return simplest(a, b, false)
		case whole.Sign(b.Num) < 0:
			return simplest(b, a, true)
		}
		return Int(0)
	})
}

// Best: the nearest rational with a denominator of at most most.
func Best(r api.Ratio, most api.Nat) (api.Ratio, api.Errno) {
	return face(func() api.Ratio {
		meant(r)
		refuse(isZero(most), api.ErrArg)
		// Moved by a whole number, rationals keep their denominators, their order
		// and how far apart they are.
		first, rest := floor(r)
		p := best(pair{x: rest, y: r.Den}, most)
		return fitting(api.Ratio{Num: plus(times(first, p.y), signed(false, p.x)), Den: p.y})
	})
}

// Neighbours: the nearest rationals below and above, with denominators of at most most.
func Neighbours(r api.Ratio, most api.Nat) (api.Ratio, api.Ratio, api.Errno) {
	two, e := face(func() [2]api.Ratio {
		meant(r)
		r := lowest(r.Num, r.Den)
		refuse(nat.Compare(most, r.Den) < 0, api.ErrArg)
		// It is not greater than the first one's denominator.
		inverse, e := whole.Inverse(r.Num, signed(false, r.Den))
		refuse(e != api.OK, e)
		return [2]api.Ratio{
			neighbour(r, most, inverse.Abs, whole.Of(-1)),
			neighbour(r, most, apart(r.Den, inverse.Abs), whole.Of(1)),
		}
	})
	return two[0], two[1], e
}

// simplest is Simplest of sizes that are above 0, low not being above high,
// with a sign.
func simplest(low, high api.Ratio, neg bool) api.Ratio {
	shared, least, greatest := common(pair{x: low.Num.Abs, y: low.Den}, pair{x: high.Num.Abs, y: high.Den})
	if isZero(greatest.y) {
		// What all begin with is one of the ends.
		return fitting(api.Ratio{Num: signed(neg, shared.a), Den: shared.c})
	}
	// There is a whole number among what they go on with: the least one makes the
	// least denominator.
	next, rest := both(least.x, least.y)
	if len(rest) > 0 {
		next = sum(next, api.Nat{1})
	}
	end := shared.fold.then(foldOf(next))
	return fitting(api.Ratio{Num: signed(neg, end.a), Den: end.c})
}

// best is Best of the size p. It follows p's quotients as long as the fraction
// that they are has no denominator above most.
func best(p pair, most api.Nat) pair {
	made := noFold()
	for !isZero(p.y) {
		more := short(p, nat.Length(most)-nat.Length(made.c))
		if more.none() {
			q, _ := both(p.x, p.y)
			more = runOf(q)
		}
		next := made.then(more.fold)
		if nat.Compare(next.c, most) > 0 {
			// It is the single quotient that is too much.
			return nearest(made, p, most)
		}
		made, p = next, more.behind(p)
	}
	return pair{x: made.a, y: made.c}
}

// short is quotients with which p begins, some or none, which make a denominator
// longer by less than so many bits. Numbers known by n bits have none in common
// whose fold has more than n / 2 bits: the fractions on both sides of it would
// be nearer to each other than the numbers are. A bit more is for the sum in
// which a fold is taken twice, and one for bits that the denominator lacks.
func short(p pair, bits int) run {
	n := min(2*(bits-2), p.bits()-1, api.MaxBits)
	if n < 2 {
		return noRun()
	}
	made, _, _ := common(p.below(n), p.above(n))
	return made
}

// nearest is Best of the size that begins with f's quotients and goes on with p,
// if the next one is too much: f's fraction, or that with as great a lesser
// quotient as may be. There is none between these two, one of which is below
// the size and one above it, that has no greater denominator.
func nearest(f fold, p pair, most api.Nat) pair {
	last, _ := both(apart(most, f.d), f.c)
	g := f.then(foldOf(last))
	ended, longer := pair{x: f.a, y: f.c}, pair{x: g.a, y: g.c}
	// How far each is away, times its denominator and times the size's.
	way, longerWay := p.y, apart(p.x, product(last, p.y))
	order := compareProducts(way, longer.y, longerWay, ended.y)
	if order == 0 {
		order = nat.Compare(ended.y, longer.y)
	}
	if order == 0 {
		order = nat.Compare(ended.x, longer.x)
	}
	if order < 0 {
		return ended
	}
	return longer
}

// neighbour is the rational that is 1 through the product of its denominator
// and r's away from r, which is in lowest terms, to the side of unit. Just the
// denominators that leave the rest by r's have one; it is the greatest of them
// up to most.
func neighbour(r api.Ratio, most, rest api.Nat, unit api.Whole) api.Ratio {
	_, over := both(apart(most, rest), r.Den)
	den := apart(most, over)
	num := plus(times(r.Num, den), unit)
	return fitting(api.Ratio{Num: signed(num.Neg, exactly(num.Abs, r.Den)), Den: den})
}
