package span_test

import (
	"slices"
	"testing"

	"surd/api"
	"surd/span"
)

// roomy lays a number into memory with room behind its end, and something in
// there.
func roomy(a api.Dyadic) api.Dyadic {
	const room = 5
	wide := make(api.Nat, len(a.Man.Abs)+room)
	copy(wide, a.Man.Abs)
	for i := range room {
		wide[len(a.Man.Abs)+i] = uint64(0xfeed + i)
	}
	a.Man.Abs = wide[:len(a.Man.Abs)]
	return a
}

// clipped is a number somewhere else, without room.
func clipped(a api.Dyadic) api.Dyadic {
	a.Man.Abs = slices.Clip(slices.Clone(a.Man.Abs))
	return a
}

// each is a list with something done to each number.
func each(l []api.Dyadic, work func(a api.Dyadic) api.Dyadic) []api.Dyadic {
	var out []api.Dyadic
	for _, a := range l {
		out = append(out, work(a))
	}
	return out
}

// all is the limbs of numbers with the room behind their ends.
func all(l ...api.Dyadic) api.Nat {
	var out api.Nat
	for _, a := range l {
		out = append(out, a.Man.Abs[:cap(a.Man.Abs)]...)
	}
	return out
}

// scribble writes over numbers and the room behind their ends.
func scribble(l ...api.Dyadic) {
	for _, a := range l {
		for i := range a.Man.Abs[:cap(a.Man.Abs)] {
			a.Man.Abs[:cap(a.Man.Abs)][i] ^= 0x5555555555555555
		}
	}
}

// ends are those of spans.
func ends(l ...api.Span) []api.Dyadic {
	var out []api.Dyadic
	for _, a := range l {
		out = append(out, a.Lo, a.Hi)
	}
	return out
}

// sameNumbers: are they the same, one by one?
func sameNumbers(a, b []api.Dyadic) bool { return slices.EqualFunc(a, b, same) }

// work is a call of two spans' ends, four numbers, and all numbers that it
// answers.
type work func(l []api.Dyadic) ([]api.Dyadic, api.Errno)

// works are all calls that answer numbers.
func works() []work {
	var out []work
	for _, c := range append(calls(), sets()...) {
		for _, pos := range []int{-200, -3, 0, 90} {
			out = append(out, func(l []api.Dyadic) ([]api.Dyadic, api.Errno) {
				got, e := c.of(from(l[0], l[1]), from(l[2], l[3]), pos)
				return ends(got), e
			})
		}
	}
	for _, pos := range []int{-200, -3, 0, 90} {
		for _, call := range polynomialCalls() {
			out = append(out, func(l []api.Dyadic) ([]api.Dyadic, api.Errno) {
				got, e := call(l[1:], from(l[0], l[1]), pos)
				return ends(got), e
			})
		}
		out = append(out,
			func(l []api.Dyadic) ([]api.Dyadic, api.Errno) {
				lower, upper, e := span.Apart(from(l[0], l[1]), pos)
				return ends(lower, upper), e
			},
			func(l []api.Dyadic) ([]api.Dyadic, api.Errno) {
				got, e := span.Zeros(l[2:], from(l[0], l[1]), pos, 9)
				return ends(got...), e
			},
			func(l []api.Dyadic) ([]api.Dyadic, api.Errno) {
				got, e := span.Zeros(nil, from(l[2], l[3]), pos, 5)
				return ends(got...), e
			},
			func(l []api.Dyadic) ([]api.Dyadic, api.Errno) {
				got, e := span.Of(api.Ratio{Num: l[1].Man, Den: l[2].Man.Abs}, pos)
				return ends(got), e
			},
			func(l []api.Dyadic) ([]api.Dyadic, api.Errno) {
				got, e := span.Scale(from(l[0], l[1]), pos)
				return ends(got), e
			},
		)
	}
	return append(out,
		func(l []api.Dyadic) ([]api.Dyadic, api.Errno) {
			got, e := span.Make(l[0], l[1])
			return ends(got), e
		},
		func(l []api.Dyadic) ([]api.Dyadic, api.Errno) {
			got, e := span.Point(l[3])
			return ends(got), e
		},
		func(l []api.Dyadic) ([]api.Dyadic, api.Errno) {
			got, e := span.Width(from(l[0], l[1]))
			return []api.Dyadic{got}, e
		},
		func(l []api.Dyadic) ([]api.Dyadic, api.Errno) {
			got, e := span.Middle(from(l[0], l[1]))
			return []api.Dyadic{got}, e
		},
	)
}

// R3, R4: what is handed in stays as it is, and so does the room behind its
// end; what is in there does not change the answer; answers share no memory
// with it, nor with each other; asked again, a call answers the same.
func TestMemory(t *testing.T) {
	some := samples(t)
	for i, work := range works() {
		for j, x := range some {
			l := ends(x, some[(3*i+5*j+1)%len(some)])
			a := each(l, roomy)
			was := all(a...)
			got, e := work(a)
			if !slices.Equal(all(a...), was) {
				t.Fatalf("call %d has changed what it was handed", i)
			}
			answer := all(got...)
			scribble(a...)
			if !slices.Equal(all(got...), answer) {
				t.Fatalf("call %d: an answer shares memory with what it was handed", i)
			}
			again, f := work(each(l, clipped))
			if e != f || !sameNumbers(again, got) {
				t.Fatalf("call %d answers another thing of %v", i, l)
			}
			for k := range again {
				scribble(again[k])
				rest := append(slices.Clone(again[:k]), again[k+1:]...)
				if !slices.Equal(all(rest...), all(append(slices.Clone(got[:k]), got[k+1:]...)...)) {
					t.Fatalf("call %d: two numbers of an answer share memory", i)
				}
				scribble(again[k])
			}
		}
	}
}

// R3: one number for all ends is as good as different ones.
func TestSameNumberTwice(t *testing.T) {
	for i, work := range works() {
		for _, x := range numbers() {
			a := roomy(x)
			got, e := work([]api.Dyadic{a, a, a, a})
			apart, f := work(each([]api.Dyadic{x, x, x, x}, roomy))
			if e != f || !sameNumbers(got, apart) {
				t.Fatalf("call %d of %v alone", i, x)
			}
		}
	}
}

// R4: a call answers what its arguments say when it is asked, and what it has
// answered may be written over.
func TestAskedAgain(t *testing.T) {
	for i, work := range works() {
		l := each([]api.Dyadic{of(5, -3), above(api.Nat{5, 7, 9}, -3), below(api.Nat{12, 1}, 2), of(-7, 0)}, roomy)
		first, _ := work(l)
		scribble(first...)
		copy(l[1].Man.Abs, api.Nat{8, 0, 3})
		l[2].Man.Abs[0] = 1
		got, e := work(l)
		wanted, f := work([]api.Dyadic{of(5, -3), above(api.Nat{8, 0, 3}, -3), below(api.Nat{1, 1}, 2), of(-7, 0)})
		if e != f || !sameNumbers(got, wanted) {
			t.Fatalf("call %d answers what was said before", i)
		}
	}
}
