package rounded_test

import (
	"slices"
	"testing"

	"surd/api"
	"surd/dyadic"
	"surd/nat"
	"surd/rounded"
)

// result is a call, still to be told the position and the direction, and what
// is known of its exact result.
type result struct {
	what string
	at   func(pos int, mode api.Mode) (api.Dyadic, api.Errno)
	// top is near the position of its highest bit.
	top int
	// side holds the exact result against a number: -1, 0 or 1.
	side func(d api.Dyadic) int
}

// results are drawn quotients, roots, rationals and powers, of which many are
// exact at some position.
func results(t *testing.T, seed mix) []result {
	var out []result
	for i := range 60 {
		a, b := seed.dyadic(1+i%3), seed.divisor(1+i%2)
		if i%3 == 0 {
			a = times(t, b, above(seed.nat(1), seed.below(9)))
		}
		out = append(out, quotientOf(t, a, b), rationalOf(t, a, b), powerOf(t, b, i%9-4))
		if i%3 == 0 {
			b = times(t, b, b)
		}
		out = append(out, rootOf(t, size(b)))
	}
	return append(out, quotientOf(t, of(0, 3), of(5, 0)), rootOf(t, of(0, 9)))
}

// highest is near the position of a number's highest bit.
func highest(a api.Dyadic) int { return a.Exp + nat.Length(a.Man.Abs) }

func quotientOf(t *testing.T, a, b api.Dyadic) result {
	return result{
		what: "Quo",
		at:   func(pos int, mode api.Mode) (api.Dyadic, api.Errno) { return rounded.Quo(a, b, pos, mode) },
		top:  highest(a) - highest(b),
		side: func(d api.Dyadic) int { return compare(t, a, times(t, d, b)) * dyadic.Sign(b) },
	}
}

func rationalOf(t *testing.T, a, b api.Dyadic) result {
	made := quotientOf(t, api.Dyadic{Man: a.Man}, api.Dyadic{Man: api.Whole{Abs: b.Man.Abs}})
	made.what = "Ratio"
	made.at = func(pos int, mode api.Mode) (api.Dyadic, api.Errno) {
		return rounded.Ratio(api.Ratio{Num: a.Man, Den: b.Man.Abs}, pos, mode)
	}
	return made
}

func powerOf(t *testing.T, a api.Dyadic, k int) result {
	product := of(1, 0)
	for range max(k, -k) {
		product = times(t, product, a)
	}
	made := quotientOf(t, product, of(1, 0))
	if k < 0 {
		made = quotientOf(t, of(1, 0), product)
	}
	made.what = "Power"
	made.at = func(pos int, mode api.Mode) (api.Dyadic, api.Errno) { return rounded.Power(a, k, pos, mode) }
	return made
}

func rootOf(t *testing.T, a api.Dyadic) result {
	return result{
		what: "Sqrt",
		at:   func(pos int, mode api.Mode) (api.Dyadic, api.Errno) { return rounded.Sqrt(a, pos, mode) },
		top:  highest(a) / 2,
		side: func(d api.Dyadic) int {
			if dyadic.Sign(d) < 0 {
				return 1
			}
			return compare(t, a, times(t, d, d))
		},
	}
}

// isAt: is it a multiple of 2^pos?
func isAt(d api.Dyadic, pos int) bool { return dyadic.Sign(d) == 0 || d.Exp >= pos }

// P9.3, P9.5: Down is not above the exact result, and Up not below it; Up is
// Down just if that is the result, and else 2^pos more; Near is one of the two,
// and not the one that is farther off.
func TestDirections(t *testing.T) {
	reckon := must[api.Dyadic](t)
	for _, r := range results(t, 7) {
		for _, pos := range []int{r.top - 150, r.top - 64, r.top - 7, r.top - 1, r.top, r.top + 1, r.top + 40} {
			down, up, near := reckon(r.at(pos, api.Down)), reckon(r.at(pos, api.Up)), reckon(r.at(pos, api.Near))
			if !isAt(down, pos) || !isAt(up, pos) || !isAt(near, pos) {
				t.Fatalf("%s is not at %d: %v, %v, %v", r.what, pos, short(down), short(up), short(near))
			}
			if r.side(down) == 0 {
				want(t, r.what+", exact, Up", up, api.OK, down)
				want(t, r.what+", exact, Near", near, api.OK, down)
				continue
			}
			if r.side(down) < 0 || r.side(up) > 0 {
				t.Errorf("%s at %d: %v and %v", r.what, pos, short(down), short(up))
			}
			want(t, r.what+", the next step", up, api.OK, plus(t, down, of(1, pos)))
			wanted := down
			if side := r.side(plus(t, down, of(1, pos-1))); side > 0 || side == 0 && isAt(up, pos+1) {
				wanted = up
			}
			want(t, r.what+", Near", near, api.OK, wanted)
		}
	}
}

// P9.4, P9.5: what is exact at a position is the same at each lower one; and
// the product with the divisor, or the square, is what it was made of.
func TestExactResults(t *testing.T) {
	reckon := must[api.Dyadic](t)
	exact := map[string]int{}
	for _, r := range results(t, 8) {
		for _, pos := range []int{r.top - 400, r.top - 90, r.top - 3} {
			down, up := reckon(r.at(pos, api.Down)), reckon(r.at(pos, api.Up))
			if !same(down, up) {
				continue
			}
			exact[r.what]++
			if r.side(down) != 0 {
				t.Errorf("%s at %d: %v is not exact", r.what, pos, short(down))
			}
			for d := range 70 {
				for _, mode := range modes() {
					got, e := r.at(pos-d, mode)
					want(t, r.what+", lower", got, e, down)
				}
			}
		}
	}
	for _, what := range []string{"Quo", "Ratio", "Power", "Sqrt"} {
		if exact[what] < 9 {
			t.Errorf("%s: %d exact results alone", what, exact[what])
		}
	}
}

// P9.6: a greater number has no lesser root, and no lesser quotient by what is
// above 0.
func TestOrder(t *testing.T) {
	reckon := must[api.Dyadic](t)
	drawn := mix(9)
	for i := range 30 {
		var numbers []api.Dyadic
		first := drawn.dyadic(2)
		for d := -8; d <= 8; d++ {
			numbers = append(numbers, drawn.dyadic(1+i%3), plus(t, first, of(d, first.Exp)), of(d, first.Exp))
		}
		slices.SortFunc(numbers, func(a, b api.Dyadic) int { return compare(t, a, b) })
		b := size(drawn.divisor(1))
		for _, pos := range []int{first.Exp / 2, first.Exp, first.Exp + 1, first.Exp - highest(b)} {
			for _, mode := range modes() {
				var last, lastRoot api.Dyadic
				for j, a := range numbers {
					q := reckon(rounded.Quo(a, b, pos, mode))
					if j > 0 && compare(t, q, last) < 0 {
						t.Errorf("Quo of %v at %d: %v behind %v", short(a), pos, short(q), short(last))
					}
					last = q
					if dyadic.Sign(a) < 0 {
						continue
					}
					root := reckon(rounded.Sqrt(a, pos, mode))
					if compare(t, root, lastRoot) < 0 {
						t.Errorf("Sqrt of %v at %d: %v behind %v", short(a), pos, short(root), short(lastRoot))
					}
					lastRoot = root
				}
			}
		}
	}
}
