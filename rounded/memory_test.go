package rounded_test

import (
	"slices"
	"testing"

	"surd/api"
	"surd/rounded"
)

// roomy lays a number into memory with room behind its end, and something in
// there.
func roomy(a api.Dyadic) api.Dyadic {
	const room = 5
	wide := make(api.Nat, len(a.Man.Abs)+room)
	copy(wide, a.Man.Abs)
	for i := range room {
		wide[len(a.Man.Abs)+i] = uint64(0xfeed + i)
	}
	a.Man.Abs = wide[:len(a.Man.Abs)]
	return a
}

// clipped is a number somewhere else, without room.
func clipped(a api.Dyadic) api.Dyadic {
	a.Man.Abs = slices.Clip(slices.Clone(a.Man.Abs))
	return a
}

// all is a number's limbs with the room behind their end.
func all(a api.Dyadic) api.Nat { return a.Man.Abs[:cap(a.Man.Abs)] }

// scribble writes over numbers and the room behind their ends.
func scribble(l ...api.Dyadic) {
	for _, a := range l {
		for i := range all(a) {
			all(a)[i] ^= 0x5555555555555555
		}
	}
}

// call is one of two numbers.
type call func(a, b api.Dyadic) (api.Dyadic, api.Errno)

// calls are all calls, as calls of two numbers.
func calls() []call {
	var out []call
	for _, pos := range []int{-200, -3, 0, 90} {
		for _, mode := range modes() {
			out = append(out,
				func(a, b api.Dyadic) (api.Dyadic, api.Errno) { return rounded.Quo(a, b, pos, mode) },
				func(a, b api.Dyadic) (api.Dyadic, api.Errno) { return rounded.Quo(a, of(1, 0), pos, mode) },
				func(a, b api.Dyadic) (api.Dyadic, api.Errno) { return rounded.Quo(of(1, 0), b, pos, mode) },
				func(a, b api.Dyadic) (api.Dyadic, api.Errno) { return rounded.Sqrt(a, pos, mode) },
				func(a, b api.Dyadic) (api.Dyadic, api.Errno) { return rounded.Sqrt(size(b), pos, mode) },
				func(a, b api.Dyadic) (api.Dyadic, api.Errno) { return rounded.Power(a, 0, pos, mode) },
				func(a, b api.Dyadic) (api.Dyadic, api.Errno) { return rounded.Power(a, 1, pos, mode) },
				func(a, b api.Dyadic) (api.Dyadic, api.Errno) { return rounded.Power(a, -1, pos, mode) },
				func(a, b api.Dyadic) (api.Dyadic, api.Errno) { return rounded.Power(a, 3, pos, mode) },
				func(a, b api.Dyadic) (api.Dyadic, api.Errno) {
					return rounded.Ratio(api.Ratio{Num: a.Man, Den: b.Man.Abs}, pos, mode)
				},
				func(a, b api.Dyadic) (api.Dyadic, api.Errno) {
					return rounded.Ratio(api.Ratio{Num: a.Man, Den: api.Nat{1}}, pos, mode)
				},
			)
		}
	}
	return append(out,
		func(a, b api.Dyadic) (api.Dyadic, api.Errno) {
			return exactOf(api.Ratio{Num: a.Man, Den: b.Man.Abs})
		},
		func(a, b api.Dyadic) (api.Dyadic, api.Errno) {
			return exactOf(api.Ratio{Num: a.Man, Den: api.Nat{1}})
		},
		func(a, b api.Dyadic) (api.Dyadic, api.Errno) {
			return exactOf(api.Ratio{Num: b.Man, Den: b.Man.Abs})
		},
	)
}

// exactOf is Exact; that there is none is seen by an error of no call.
func exactOf(r api.Ratio) (api.Dyadic, api.Errno) {
	made, ok, e := rounded.Exact(r)
	if !ok && e == api.OK {
		return made, -1
	}
	return made, e
}

// R3, R4: what is handed in stays as it is, and so does the room behind its
// end; what is in there does not change the answer; answers share no memory
// with it; asked again, a call answers the same.
func TestMemory(t *testing.T) {
	some := samples()
	for i, call := range calls() {
		for j, x := range some {
			y := some[(3*i+5*j+1)%len(some)]
			a, b := roomy(x), roomy(y)
			was, other := slices.Clone(all(a)), slices.Clone(all(b))
			got, e := call(a, b)
			if !slices.Equal(all(a), was) || !slices.Equal(all(b), other) {
				t.Fatalf("call %d has changed what it was handed", i)
			}
			answer := slices.Clone(all(got))
			scribble(a, b)
			if !slices.Equal(all(got), answer) {
				t.Fatalf("call %d: an answer shares memory with what it was handed", i)
			}
			again, f := call(clipped(x), clipped(y))
			if e != f || !same(again, got) {
				t.Fatalf("call %d answers another thing of %v and %v", i, short(x), short(y))
			}
		}
	}
}

// R3: one number for both arguments is as good as different ones.
func TestSameNumberTwice(t *testing.T) {
	for i, call := range calls() {
		for _, x := range samples() {
			a := roomy(x)
			got, e := call(a, a)
			if apart, f := call(a, roomy(x)); e != f || !same(got, apart) {
				t.Fatalf("call %d of %v twice", i, short(x))
			}
		}
	}
}

// R4: a call answers what its arguments say when it is asked, and what it has
// answered may be written over.
func TestAskedAgain(t *testing.T) {
	for i, call := range calls() {
		a, b := roomy(above(api.Nat{5, 7, 9}, -3)), roomy(below(api.Nat{12, 1}, 2))
		first, _ := call(a, b)
		scribble(first)
		copy(a.Man.Abs, api.Nat{8, 0, 3})
		b.Man.Abs[0] = 0
		got, e := call(a, b)
		wanted, f := call(above(api.Nat{8, 0, 3}, -3), below(api.Nat{0, 1}, 2))
		if e != f || !same(got, wanted) {
			t.Fatalf("call %d answers what was said before", i)
		}
	}
}
