package series

import "surd/api"

// arc is one of the two functions that are told by tangents: atan, of a circle,
// or atanh, of a hyperbola.
type arc struct {
	// signed is a, or -a: what the squares are taken by.
	signed func(a api.Whole) api.Whole
	// turn is two numbers whose quotient is the tangent of z: 8 steps off or
	// less, of what is at most 0.6 in size.
	turn func(g grid, z api.Whole) (rise, run api.Whole)
}

// circle is atan.
func circle() arc {
	return arc{signed: opposite, turn: func(g grid, z api.Whole) (api.Whole, api.Whole) {
		return sine(g, z), cosine(g, z)
	}}
}

// hyperbola is atanh: tanh z is exp 2z - 1 over exp 2z + 1.
func hyperbola() arc {
	same := func(a api.Whole) api.Whole { return a }
	return arc{signed: same, turn: func(g grid, z api.Whole) (api.Whole, api.Whole) {
		root := exponential(g, z)
		twice := g.product(root, root)
		return minus(twice, g.one()), plus(twice, g.one())
	}}
}

// at is the arc whose tangent is x, at most 1/2 in size; it is 17 steps off or
// less. Where the series would be long the arc is found roughly first, and what
// it lacks is told by the tangent of the difference.
func (a arc) at(g grid, x api.Whole) api.Whole {
	if !g.isLong(x) {
		return a.bySeries(g, x)
	}
	// Long series have more than 64 places, so this goes down.
	rough := g/8 + 32
	z := moved(a.at(rough, moved(x, int(rough-g))), int(g-rough))
	rise, run := a.turn(g, z)
	lack := g.quotient(minus(g.product(x, run), rise), minus(run, a.signed(g.product(x, rise))))
	return plus(z, a.bySeries(g, lack))
}

// isLong: does the series of x have so many terms that those of turn, which has
// about as many as a square of the cube root, are less work?
func (g grid) isLong(x api.Whole) bool {
	root := cubeRoot(int(g))
	return int(g)/(2*max(g.depth(x), 1)) > 2*root*root
}

// bySeries is the arc by its series alone; it is less than 2 steps off.
func (a arc) bySeries(g grid, x api.Whole) api.Whole {
	fine := finer(g, 0)
	x = moved(x, int(fine-g))
	made := seriesOf(fine, x, a.signed(fine.product(x, x)), func(n int, c api.Whole) api.Whole {
		return through(times(c, 2*n-1), 2*n+1)
	}).value()
	return moved(made, int(g-fine))
}
