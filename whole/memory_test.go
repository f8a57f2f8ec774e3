package whole_test

import (
	"slices"
	"testing"

	"surd/api"
	"surd/whole"
)

// roomy lays a number into memory with room behind its end, and something in
// there.
func roomy(a api.Whole) api.Whole {
	const room = 5
	wide := make(api.Nat, len(a.Abs)+room)
	copy(wide, a.Abs)
	for i := range room {
		wide[len(a.Abs)+i] = uint64(0xfeed + i)
	}
	return api.Whole{Neg: a.Neg, Abs: wide[:len(a.Abs)]}
}

// all is a number's limbs with the room behind their end.
func all(a api.Whole) api.Nat { return a.Abs[:cap(a.Abs)] }

// copied is a number with the room behind its end, somewhere else.
func copied(a api.Whole) api.Nat { return slices.Clone(all(a)) }

// scribble writes over a number and the room behind its end.
func scribble(a api.Whole) {
	for i := range all(a) {
		all(a)[i] ^= 0x5555555555555555
	}
}

// outcome is what a call answers: numbers, an int or a text, and an error.
type outcome struct {
	numbers []api.Whole
	n       int
	text    string
	e       api.Errno
}

// same: are they the same answers?
func (o outcome) same(p outcome) bool {
	return o.n == p.n && o.text == p.text && o.e == p.e && slices.EqualFunc(o.numbers, p.numbers, func(a, b api.Whole) bool {
		return a.Neg == b.Neg && slices.Equal(a.Abs, b.Abs)
	})
}

// calls are all calls that are handed numbers, as calls of two.
func calls() []func(a, b api.Whole) outcome {
	return []func(a, b api.Whole) outcome{
		func(a, b api.Whole) outcome { n, e := whole.Int(a); return outcome{n: n, e: e} },
		func(a, b api.Whole) outcome { return one(whole.Make(b.Neg, a.Abs)) },
		func(a, b api.Whole) outcome { return outcome{n: whole.Sign(a)} },
		func(a, b api.Whole) outcome { return outcome{n: whole.Compare(a, b)} },
		func(a, b api.Whole) outcome { return one(whole.Neg(a)) },
		func(a, b api.Whole) outcome { return one(whole.Abs(a)) },
		func(a, b api.Whole) outcome { return one(whole.Add(a, b)) },
		func(a, b api.Whole) outcome { return one(whole.Sub(a, b)) },
		func(a, b api.Whole) outcome { return one(whole.Mul(a, b)) },
		func(a, b api.Whole) outcome { return one(whole.Pow(a, 3)) },
		func(a, b api.Whole) outcome { return one(whole.Pow(a, 1)) },
		func(a, b api.Whole) outcome { return one(whole.Shift(a, 0)) },
		func(a, b api.Whole) outcome { return one(whole.Shift(a, 70)) },
		func(a, b api.Whole) outcome { return one(whole.Shift(a, -70)) },
		func(a, b api.Whole) outcome { return pairOf(whole.Quo(a, b)) },
		func(a, b api.Whole) outcome { return pairOf(whole.Floor(a, b)) },
		func(a, b api.Whole) outcome { return pairOf(whole.Ceil(a, b)) },
		func(a, b api.Whole) outcome { return pairOf(whole.Near(a, b)) },
		func(a, b api.Whole) outcome { return pairOf(whole.Euclid(a, b)) },
		func(a, b api.Whole) outcome {
			g, x, y, e := whole.Bezout(a, b)
			return outcome{numbers: []api.Whole{g, x, y}, e: e}
		},
		func(a, b api.Whole) outcome { return one(whole.Inverse(a, b)) },
		func(a, b api.Whole) outcome { return one(whole.PowMod(a, b.Abs[:min(len(b.Abs), 2)], b)) },
		func(a, b api.Whole) outcome { return one(whole.PowMod(b, api.Nat{1}, a)) },
		func(a, b api.Whole) outcome { return one(whole.And(a, b)) },
		func(a, b api.Whole) outcome { return one(whole.Or(a, b)) },
		func(a, b api.Whole) outcome { return one(whole.Xor(a, b)) },
		func(a, b api.Whole) outcome { return one(whole.Not(a)) },
		func(a, b api.Whole) outcome { n, e := whole.Bit(a, 64); return outcome{n: n, e: e} },
		func(a, b api.Whole) outcome { n, e := whole.Tail(a); return outcome{n: n, e: e} },
		func(a, b api.Whole) outcome { return outcome{text: whole.Print(a)} },
		func(a, b api.Whole) outcome { n, e := whole.Jacobi(a, b); return outcome{n: n, e: e} },
		func(a, b api.Whole) outcome { return pairOf(whole.Crt([]api.Whole{b}, []api.Whole{a})) },
		func(a, b api.Whole) outcome { return pairOf(whole.Crt([]api.Whole{a, a}, []api.Whole{a, b})) },
	}
}

func one(a api.Whole, e api.Errno) outcome { return outcome{numbers: []api.Whole{a}, e: e} }

func pairOf(a, b api.Whole, e api.Errno) outcome { return outcome{numbers: []api.Whole{a, b}, e: e} }

// R3, R4: what is handed in stays as it is, and so does the room behind its
// end; what is in there does not change the answer; answers share no memory
// with it, nor with each other; asked again, a call answers the same.
func TestMemory(t *testing.T) {
	some := samples()
	for i, call := range calls() {
		for j, x := range some {
			y := some[(3*i+5*j+1)%len(some)]
			a, b := roomy(x), roomy(y)
			wasA, wasB := copied(a), copied(b)
			got := call(a, b)
			if !slices.Equal(all(a), wasA) || !slices.Equal(all(b), wasB) {
				t.Fatalf("call %d has changed what it was handed", i)
			}
			var kept []api.Nat
			for _, n := range got.numbers {
				kept = append(kept, copied(n))
			}
			scribble(a)
			scribble(b)
			for k, n := range got.numbers {
				if !slices.Equal(all(n), kept[k]) {
					t.Fatalf("call %d: answer %d shares memory", i, k)
				}
				scribble(n)
			}
			for k, n := range got.numbers {
				scribble(n)
				if !slices.Equal(all(n), kept[k]) {
					t.Fatalf("call %d: two answers share memory", i)
				}
			}
			a, b = above(slices.Clip(x.Abs)), above(slices.Clip(y.Abs))
			a.Neg, b.Neg = x.Neg, y.Neg
			if again := call(a, b); !again.same(got) {
				t.Fatalf("call %d answers another thing of %v and %v", i, short(x), short(y))
			}
		}
	}
}

// R3: Crt's lists stay as they are, with the room behind their ends.
func TestMemoryOfLists(t *testing.T) {
	rests, by := list(1, 2, 3, 9, 9), list(5, 7, 9, 8, 8)
	x, m, e := whole.Crt(rests[:3], by[:3])
	wantOK(t, "Crt's x", x, e, of(156))
	wantOK(t, "Crt's M", m, e, of(315))
	for i, n := range list(1, 2, 3, 9, 9) {
		wantWhole(t, "a rest", rests[i], n)
	}
	for i, n := range list(5, 7, 9, 8, 8) {
		wantWhole(t, "a divisor", by[i], n)
	}
	scribble(by[0])
	scribble(rests[0])
	wantWhole(t, "Crt's x behind that", x, of(156))
	wantWhole(t, "Crt's M behind that", m, of(315))
}

// R3: one number for all arguments is as good as different ones.
func TestSameNumberTwice(t *testing.T) {
	for i, call := range calls() {
		for _, x := range samples() {
			a := roomy(x)
			apart := call(a, roomy(x))
			if got := call(a, a); !got.same(apart) {
				t.Fatalf("call %d of %v twice", i, short(x))
			}
		}
	}
}
