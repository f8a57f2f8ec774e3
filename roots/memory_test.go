package roots_test

import (
	"slices"
	"testing"

	"surd/api"
	"surd/roots"
)

// call is a call's lists, taken from two numbers.
type call struct {
	name  string
	lists func(a, b api.Nat) []api.Nat
}

// asNat is a list of ints as a list of limbs, in the same order.
func asNat(l []int) api.Nat {
	var out api.Nat
	for _, v := range l {
		out = append(out, uint64(v))
	}
	return out
}

// calls are all that take or answer lists.
func calls() []call {
	root := func(k int) func(a, b api.Nat) []api.Nat {
		return func(a, _ api.Nat) []api.Nat { r, s, _ := roots.Root(a, k); return []api.Nat{r, s} }
	}
	return []call{
		{"Sqrt", func(a, _ api.Nat) []api.Nat { r, s, _ := roots.Sqrt(a); return []api.Nat{r, s} }},
		{"Ceil", func(a, _ api.Nat) []api.Nat { r, _ := roots.Ceil(a); return []api.Nat{r} }},
		{"IsSquare", func(a, _ api.Nat) []api.Nat { roots.IsSquare(a); return nil }},
		{"Root 1", root(1)}, {"Root 2", root(2)}, {"Root 3", root(3)}, {"Root 17", root(17)}, {"Root 5000", root(5000)},
		{"Perfect", func(a, _ api.Nat) []api.Nat { b, _, _ := roots.Perfect(a); return []api.Nat{b} }},
		{"Log", func(a, _ api.Nat) []api.Nat { roots.Log(a, 10); return nil }},
		{"Step", func(a, b api.Nat) []api.Nat { x, _ := roots.Step(a, b); return []api.Nat{x} }},
		{"Residue", func(a, _ api.Nat) []api.Nat { roots.Residue(a, 1000); return nil }},
	}
}

// roomy lays a into memory with room behind its end, and something in there.
func roomy(a api.Nat) api.Nat {
	const room = 5
	whole := make(api.Nat, len(a)+room)
	copy(whole, a)
	for i := range room {
		whole[len(a)+i] = 0xfeed + uint64(i)
	}
	return whole[:len(a)]
}

// all is a list with the room behind its end.
func all(a api.Nat) api.Nat { return a[:cap(a)] }

// copies are lists with the room behind their ends.
func copies(l ...api.Nat) []api.Nat {
	var out []api.Nat
	for _, a := range l {
		out = append(out, slices.Clone(all(a)))
	}
	return out
}

// same: are they, with the room behind their ends, as those copies are?
func same(was []api.Nat, l ...api.Nat) bool {
	return slices.EqualFunc(was, copies(l...), func(x, y api.Nat) bool { return slices.Equal(x, y) })
}

// scribble writes over lists and the room behind their ends.
func scribble(l ...api.Nat) {
	for _, a := range l {
		for i := range all(a) {
			all(a)[i] ^= 0x5555555555555555
		}
	}
}

// pairs are numbers to hand in: of all samples, their squares and cubes, and
// long ones.
func pairs(t *testing.T) [][2]api.Nat {
	t.Helper()
	some, m := samples(), mix(14)
	var out [][2]api.Nat
	for i, a := range some {
		square := times(t, a, a)
		out = append(out, [2]api.Nat{a, some[(7*i+3)%len(some)]}, [2]api.Nat{square, a}, [2]api.Nat{times(t, a, square), a}, [2]api.Nat{a, a})
	}
	return append(out, [2]api.Nat{m.runs(300), m.full(130)}, [2]api.Nat{m.full(200), m.full(300)})
}

// R3: what is handed in stays as it is, and so does the room behind its end;
// what is written over an answer does not reach it, nor the other way round.
// R4: what is in that room does not change the answer.
func TestMemory(t *testing.T) {
	for _, c := range calls() {
		for _, x := range pairs(t) {
			l := []api.Nat{roomy(x[0]), roomy(x[1])}
			was := copies(l...)
			got := c.lists(l[0], l[1])
			if !same(was, l...) {
				t.Errorf("%s of %v changes what is handed in", c.name, x)
			}
			for i, want := range c.lists(slices.Clip(x[0]), slices.Clip(x[1])) {
				wantNat(t, c.name+" with room behind", got[i], want)
			}
			scribble(got...)
			if !same(was, l...) {
				t.Errorf("%s of %v answers what was handed in", c.name, x)
			}
			again := c.lists(l[0], l[1])
			kept := copies(again...)
			scribble(l...)
			if !same(kept, again...) {
				t.Errorf("%s of %v keeps what was handed in", c.name, x)
			}
		}
	}
}

// R3: no two lists of one answer share memory, nor do two answers, also if
// what they are of is the same list.
func TestMemoryOfSeveralLists(t *testing.T) {
	for _, c := range calls() {
		for _, x := range pairs(t) {
			a := roomy(x[0])
			wantApart(t, c.name, func() []api.Nat { return c.lists(a, a) })
		}
	}
	wantApart(t, "Pell", func() []api.Nat { x, y, _ := roots.Pell(421); return []api.Nat{x, y} })
}

// wantApart asks that no two lists of two answers share memory.
func wantApart(t *testing.T, what string, lists func() []api.Nat) {
	t.Helper()
	l := append(lists(), lists()...)
	for i := range l {
		was := copies(l...)
		scribble(l[i])
		for j := range l {
			if j != i && !same(was[j:j+1], l[j]) {
				t.Errorf("%s: lists %d and %d share memory", what, i, j)
			}
		}
	}
}

// R3, R4: lists of ints, too, are new memory, and the next answer is as if
// nothing had been written over the last one.
func TestMemoryOfInts(t *testing.T) {
	first, _ := roots.Roots(api.Nat{17, 3}, 4096)
	_, period, _ := roots.Chain(61)
	wasRoots, wasPeriod := asNat(first), asNat(period)
	for _, l := range [][]int{first[:cap(first)], period[:cap(period)]} {
		for i := range l {
			l[i] = -1
		}
	}
	first, _ = roots.Roots(api.Nat{17, 3}, 4096)
	_, period, _ = roots.Chain(61)
	wantNat(t, "Roots again", asNat(first), wasRoots)
	wantNat(t, "Chain again", asNat(period), wasPeriod)
}
