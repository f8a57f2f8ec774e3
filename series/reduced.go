package series

import (
	"math/bits"

	"surd/api"
)

// The functions of this file take the series of an argument that is made less
// first, and undo that then. They are less than 2 steps off, x being at most 1
// in size.

// halvings is how often x is to be halved ahead of a series: then the products
// that undo it are about as many as those of the series.
func halvings(g grid, x api.Whole) int { return max(cubeRoot(int(g))-g.depth(x), 0) }

// cubeRoot is the least number whose cube is not below n.
func cubeRoot(n int) int {
	root := 1
	for root*root*root < n {
		root++
	}
	return root
}

// finer is a grid with so many places more that a series and k steps back, each
// of which makes what a value is off four times as much and adds 3 or less, do
// not come to a step of g.
func finer(g grid, k int) grid { return g + grid(2*k+bits.Len(uint(g))+16) }

// exponential is exp x, by exp 2r = (exp r)^2.
func exponential(g grid, x api.Whole) api.Whole {
	k := halvings(g, x)
	fine := finer(g, k)
	r := moved(x, int(fine-g)-k)
	made := seriesOf(fine, fine.one(), r, func(n int, c api.Whole) api.Whole { return through(c, n) }).value()
	for range k {
		made = fine.product(made, made)
	}
	return moved(made, int(g-fine))
}

// cosine is cos x, by cos 2r = 2 (cos r)^2 - 1.
func cosine(g grid, x api.Whole) api.Whole {
	k := halvings(g, x)
	fine := finer(g, k)
	one := fine.one()
	r := moved(x, int(fine-g)-k)
	made := seriesOf(fine, one, opposite(fine.product(r, r)), func(n int, c api.Whole) api.Whole {
		return through(c, (2*n-1)*2*n)
	}).value()
	for range k {
		made = minus(times(fine.product(made, made), 2), one)
	}
	return moved(made, int(g-fine))
}

// sine is sin x, by sin 3r = sin r (3 - 4 (sin r)^2): that of 2r would ask for
// the cosine too.
func sine(g grid, x api.Whole) api.Whole {
	// 3^2 is more than 2^3: so x is made less by as much as halvings would.
	k := (2*halvings(g, x) + 2) / 3
	fine := finer(g, k)
	r := moved(x, int(fine-g))
	for range k {
		r = through(r, 3)
	}
	made := seriesOf(fine, r, opposite(fine.product(r, r)), func(n int, c api.Whole) api.Whole {
		return through(c, 2*n*(2*n+1))
	}).value()
	three := times(fine.one(), 3)
	for range k {
		made = fine.product(made, minus(three, times(fine.product(made, made), 4)))
	}
	return moved(made, int(g-fine))
}
