package div_test

import (
	"slices"
	"testing"

	"surd/api"
	"surd/div"
)

// call is a call's lists, taken from three numbers.
type call struct {
	name  string
	lists func(a, b, c api.Nat) []api.Nat
}

// calls are all that answer lists.
func calls() []call {
	return []call{
		{"Both", func(a, b, _ api.Nat) []api.Nat { q, r, _ := div.Both(a, b); return []api.Nat{q, r} }},
		{"Quo", func(a, b, _ api.Nat) []api.Nat { q, _ := div.Quo(a, b); return []api.Nat{q} }},
		{"Rest", func(a, b, _ api.Nat) []api.Nat { r, _ := div.Rest(a, b); return []api.Nat{r} }},
		{"Divides", func(a, b, _ api.Nat) []api.Nat { div.Divides(a, b); return nil }},
		{"Gcd", func(a, b, _ api.Nat) []api.Nat { return []api.Nat{div.Gcd(a, b)} }},
		{"Lcm", func(a, b, _ api.Nat) []api.Nat { l, _ := div.Lcm(a, b); return []api.Nat{l} }},
		{"Power", func(a, b, c api.Nat) []api.Nat { p, _ := div.Power(a, b[:min(len(b), 2)], c); return []api.Nat{p} }},
		{"Split", func(a, b, _ api.Nat) []api.Nat { _, c, _ := div.Split(a, b); return []api.Nat{c} }},
	}
}

// roomy lays a into memory with room behind its end, and something in there.
func roomy(a api.Nat) api.Nat {
	const room = 5
	whole := make(api.Nat, len(a)+room)
	copy(whole, a)
	for i := range room {
		whole[len(a)+i] = 0xfeed + uint64(i)
	}
	return whole[:len(a)]
}

// all is a list with the room behind its end.
func all(a api.Nat) api.Nat { return a[:cap(a)] }

// copies are lists with the room behind their ends.
func copies(l ...api.Nat) []api.Nat {
	var out []api.Nat
	for _, a := range l {
		out = append(out, slices.Clone(all(a)))
	}
	return out
}

// same: are they, with the room behind their ends, as those copies are?
func same(was []api.Nat, l ...api.Nat) bool {
	return slices.EqualFunc(was, copies(l...), func(x, y api.Nat) bool { return slices.Equal(x, y) })
}

// scribble writes over lists and the room behind their ends.
func scribble(l ...api.Nat) {
	for _, a := range l {
		for i := range all(a) {
			all(a)[i] ^= 0x5555555555555555
		}
	}
}

// triples are numbers to hand in: of all samples, and long ones.
func triples() [][3]api.Nat {
	some, m := samples(), mix(10)
	var out [][3]api.Nat
	for i, a := range some {
		for _, j := range []int{i, i + 1, 7*i + 3, 11*i + 5} {
			out = append(out, [3]api.Nat{a, some[j%len(some)], some[(j+9)%len(some)]})
		}
	}
	return append(out, [3]api.Nat{m.runs(300), m.full(130), m.full(3)}, [3]api.Nat{m.full(80), m.full(300), m.full(2)})
}

// R3: what is handed in stays as it is, and so does the room behind its end;
// what is written over an answer does not reach it, nor the other way round.
// R4: what is in that room does not change the answer.
func TestMemory(t *testing.T) {
	for _, c := range calls() {
		for _, x := range triples() {
			l := []api.Nat{roomy(x[0]), roomy(x[1]), roomy(x[2])}
			was := copies(l...)
			got := c.lists(l[0], l[1], l[2])
			if !same(was, l...) {
				t.Errorf("%s of %v changes what is handed in", c.name, x)
			}
			for i, want := range c.lists(slices.Clip(x[0]), slices.Clip(x[1]), slices.Clip(x[2])) {
				wantNat(t, c.name+" with room behind", got[i], want)
			}
			scribble(got...)
			if !same(was, l...) {
				t.Errorf("%s of %v answers what was handed in", c.name, x)
			}
			again := c.lists(l[0], l[1], l[2])
			kept := copies(again...)
			scribble(l...)
			if !same(kept, again...) {
				t.Errorf("%s of %v keeps what was handed in", c.name, x)
			}
		}
	}
}

// R3: no two lists of one answer share memory, nor do two answers, also if
// what they are of is the same list.
func TestMemoryOfSeveralLists(t *testing.T) {
	for _, c := range calls() {
		for _, x := range triples() {
			a, b := roomy(x[0]), roomy(x[1])
			for _, l := range [][3]api.Nat{{a, a, a}, {a, b, b}, {a, b, a}, {b, a, b}} {
				lists := append(c.lists(l[0], l[1], l[2]), c.lists(l[0], l[1], l[2])...)
				for i := range lists {
					was := copies(lists...)
					scribble(lists[i])
					for j := range lists {
						if j != i && !same(was[j:j+1], lists[j]) {
							t.Errorf("%s of %v: lists %d and %d share memory", c.name, x, i, j)
						}
					}
				}
				for i, got := range c.lists(l[0], l[1], l[2]) {
					want := c.lists(roomy(l[0]), roomy(l[1]), roomy(l[2]))[i]
					wantNat(t, c.name+" of one list twice", got, want)
				}
			}
		}
	}
}
