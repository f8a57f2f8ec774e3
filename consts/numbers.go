package consts

import (
	"surd/api"
	"surd/nat"
	"surd/roots"
	"surd/whole"
)

// pi is told by the Chudnovskys' series, which comes to 426880 times the second
// root of 10005, through pi. It gains 47 bits a term.
func pi(places int) api.Whole {
	const square = 10005 * 426880 * 426880
	s := series{
		over:   func(n int) api.Whole { return times(5-6*n, 2*n-1, 6*n-1) },
		under:  func(n int) api.Whole { return times(n, n, n, 640320*640320/24, 640320) },
		weight: func(n int) api.Whole { return whole.Of(13591409 + 545140134*n) },
	}
	root := rootOf(moved(whole.Of(square), 2*places))
	return quotient(moved(root, places), s.value(places))
}

// euler is e: 1 + (1 + 1/2 (1 + 1/3 (1 + ..; so all quotients are at most 1/2.
func euler(places int) api.Whole {
	one := func(n int) api.Whole { return whole.Of(1) }
	s := series{over: one, under: func(n int) api.Whole { return whole.Of(n + 1) }, weight: one}
	return plus(s.value(places), moved(whole.Of(1), places))
}

// apery is the sum of the inverse cubes: a 64th of Amdeberhan's and Zeilberger's
// series, which gains 10 bits a term.
func apery(places int) api.Whole {
	s := series{
		over:   func(n int) api.Whole { return times(-n, n, n, n, n) },
		under:  func(n int) api.Whole { d := 2*n + 1; return times(32*d, d, d, d, d) },
		weight: func(n int) api.Whole { return whole.Of((205*n+250)*n + 77) },
	}
	return moved(s.value(places), -6)
}

// golden is half of 1 and the second root of 5.
func golden(places int) api.Whole {
	root := rootOf(moved(whole.Of(5), 2*places))
	return moved(plus(root, moved(whole.Of(1), places)), -1)
}

// rootOf is the second root, rounded down.
func rootOf(a api.Whole) api.Whole {
	root, _, _ := roots.Sqrt(a.Abs)
	return api.Whole{Abs: root}
}

// times is the product of ints, of which the first one alone may be below 0: an
// int would not hold it.
func times(first int, others ...int) api.Whole {
	made := whole.Of(first)
	for _, m := range others {
		made.Abs, _ = nat.Times(made.Abs, uint64(m))
	}
	return made
}
