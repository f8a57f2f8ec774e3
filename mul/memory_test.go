package mul_test

import (
	"slices"
	"testing"

	"surd/api"
	"surd/mul"
)

// call is a call's lists, taken from two numbers.
type call struct {
	name  string
	lists func(a, b api.Nat) []api.Nat
}

// of is a call that answers one list.
func of(name string, f func(a, b api.Nat) (api.Nat, api.Errno)) call {
	return call{name, func(a, b api.Nat) []api.Nat { p, _ := f(a, b); return []api.Nat{p} }}
}

// calls are all that answer lists of lists.
func calls() []call {
	out := []call{
		of("Square", func(a, _ api.Nat) (api.Nat, api.Errno) { return mul.Square(a) }),
		of("Product", func(a, b api.Nat) (api.Nat, api.Errno) { return mul.Product(a, b, a) }),
		of("Product of one", func(a, _ api.Nat) (api.Nat, api.Errno) { return mul.Product(a) }),
	}
	for _, w := range ways() {
		out = append(out, of(w.name, w.of))
	}
	for _, k := range []int{0, 1, 2, 5, 64, 70, 1000} {
		out = append(out,
			of("Low", func(a, b api.Nat) (api.Nat, api.Errno) { return mul.Low(a, b, k) }),
			of("High", func(a, b api.Nat) (api.Nat, api.Errno) { return mul.High(a, b, k) }),
			of("Pow", func(a, b api.Nat) (api.Nat, api.Errno) { return mul.Pow(a, k%6) }),
			call{"Split", func(a, _ api.Nat) []api.Nat { x, y, _ := mul.Split(a, k); return []api.Nat{x, y} }},
			call{"Parts", func(a, b api.Nat) []api.Nat { x, y, z, _ := mul.Parts(a, b, k); return []api.Nat{x, y, z} }})
	}
	return out
}

// roomy lays a into memory with room behind its end, and something in there.
func roomy(a api.Nat) api.Nat {
	const room = 5
	whole := make(api.Nat, len(a)+room)
	copy(whole, a)
	for i := range room {
		whole[len(a)+i] = 0xfeed + uint64(i)
	}
	return whole[:len(a)]
}

// all is a list with the room behind its end.
func all(a api.Nat) api.Nat { return a[:cap(a)] }

// copies are lists with the room behind their ends.
func copies(l ...api.Nat) []api.Nat {
	var out []api.Nat
	for _, a := range l {
		out = append(out, slices.Clone(all(a)))
	}
	return out
}

// same: are they, with the room behind their ends, as those copies are?
func same(was []api.Nat, l ...api.Nat) bool {
	return slices.EqualFunc(was, copies(l...), func(x, y api.Nat) bool { return slices.Equal(x, y) })
}

// scribble writes over a list and the room behind its end.
func scribble(a api.Nat) {
	for i := range all(a) {
		all(a)[i] ^= 0x5555555555555555
	}
}

// R3: what is handed in stays as it is, and so does the room behind its end;
// what is written over an answer does not reach it, nor the other way round.
// R4: what is in that room does not change the answer.
func TestMemory(t *testing.T) {
	some := samples()
	for _, c := range calls() {
		for i, x := range some {
			y := some[(i*7+3)%len(some)]
			a, b := roomy(x), roomy(y)
			was := copies(a, b)
			got := c.lists(a, b)
			if !same(was, a, b) {
				t.Errorf("%s of %v, %v changes what is handed in", c.name, x, y)
			}
			for i, want := range c.lists(slices.Clip(x), slices.Clip(y)) {
				wantNat(t, c.name+" with room behind", got[i], want)
			}
			for _, g := range got {
				scribble(g)
			}
			if !same(was, a, b) {
				t.Errorf("%s of %v, %v answers what was handed in", c.name, x, y)
			}
			again := c.lists(a, b)
			kept := copies(again...)
			scribble(a)
			scribble(b)
			if !same(kept, again...) {
				t.Errorf("%s of %v, %v keeps what was handed in", c.name, x, y)
			}
		}
	}
}

// R3: no two lists of one answer share memory, nor do two answers, also if
// what they are of is the same list.
func TestMemoryOfSeveralLists(t *testing.T) {
	for _, c := range calls() {
		for _, x := range samples() {
			a := roomy(x)
			lists := append(c.lists(a, a), c.lists(a, a)...)
			for i := range lists {
				was := copies(lists...)
				scribble(lists[i])
				for j := range lists {
					if j != i && !same(was[j:j+1], lists[j]) {
						t.Errorf("%s of %v: lists %d and %d share memory", c.name, x, i, j)
					}
				}
			}
			for i, got := range c.lists(a, a) {
				wantNat(t, c.name+" of one list twice", got, c.lists(roomy(x), roomy(x))[i])
			}
		}
	}
}

// R3: Product's list stays as it is.
func TestMemoryOfProduct(t *testing.T) {
	l := []api.Nat{{3}, {5, 0}, {0, 7}, {9}}
	mul.Product(l[:3]...)
	want := []api.Nat{{3}, {5, 0}, {0, 7}, {9}}
	for i := range l {
		if !slices.Equal(l[i], want[i]) {
			t.Errorf("Product changes its list: %v", l)
		}
	}
}

// R3: answers of numbers alone are new ones.
func TestMemoryOfCounts(t *testing.T) {
	for _, f := range []func(n int) (api.Nat, api.Errno){
		mul.Factorial, mul.Fibonacci,
		func(n int) (api.Nat, api.Errno) { return mul.Binomial(n, n/2) },
		func(n int) (api.Nat, api.Errno) { return mul.Pow(nil, 0) },
		func(n int) (api.Nat, api.Errno) { return mul.Product() },
	} {
		for n := range 5 {
			one, two := must(t)(f(n)), must(t)(f(n))
			was := copies(two)
			scribble(one)
			if !same(was, two) {
				t.Errorf("two answers of %d share memory", n)
			}
		}
	}
}
