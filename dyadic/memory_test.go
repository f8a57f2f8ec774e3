package dyadic_test

import (
	"slices"
	"testing"

	"surd/api"
	"surd/dyadic"
)

// roomy lays a number into memory with room behind its end, and something in
// there.
func roomy(a api.Dyadic) api.Dyadic {
	const room = 5
	wide := make(api.Nat, len(a.Man.Abs)+room)
	copy(wide, a.Man.Abs)
	for i := range room {
		wide[len(a.Man.Abs)+i] = uint64(0xfeed + i)
	}
	a.Man.Abs = wide[:len(a.Man.Abs)]
	return a
}

// clipped is a number somewhere else, without room.
func clipped(a api.Dyadic) api.Dyadic {
	a.Man.Abs = slices.Clip(slices.Clone(a.Man.Abs))
	return a
}

// all is a number's limbs with the room behind their end.
func all(a api.Nat) api.Nat { return a[:cap(a)] }

// scribble writes over numbers and the room behind their ends.
func scribble(l ...api.Nat) {
	for _, a := range l {
		for i := range all(a) {
			all(a)[i] ^= 0x5555555555555555
		}
	}
}

// kept is what numbers and the room behind their ends are, somewhere else.
func kept(l []api.Nat) []api.Nat {
	var out []api.Nat
	for _, a := range l {
		out = append(out, slices.Clone(all(a)))
	}
	return out
}

// sameAs: are numbers, with the room behind their ends, what was kept?
func sameAs(l, was []api.Nat) bool {
	return slices.EqualFunc(l, was, func(a, b api.Nat) bool { return slices.Equal(all(a), b) })
}

// outcome is what a call answers: numbers, a sign, an int or a text, and an
// error.
type outcome struct {
	numbers []api.Nat
	neg     bool
	n       int
	text    string
	e       api.Errno
}

// same: are they the same answers?
func (o outcome) same(p outcome) bool {
	return o.neg == p.neg && o.n == p.n && o.text == p.text && o.e == p.e &&
		slices.EqualFunc(o.numbers, p.numbers, func(a, b api.Nat) bool { return slices.Equal(a, b) })
}

func number(a api.Dyadic, e api.Errno) outcome {
	return outcome{numbers: []api.Nat{a.Man.Abs}, neg: a.Man.Neg, n: a.Exp, e: e}
}

func integer(n int, e api.Errno) outcome { return outcome{n: n, e: e} }

func text(s string, e api.Errno) outcome { return outcome{text: s, e: e} }

func wholeNumber(a api.Whole, e api.Errno) outcome {
	return outcome{numbers: []api.Nat{a.Abs}, neg: a.Neg, e: e}
}

func rational(r api.Ratio, e api.Errno) outcome {
	return outcome{numbers: []api.Nat{r.Num.Abs, r.Den}, neg: r.Num.Neg, e: e}
}

// calls are all calls that are handed numbers, as calls of two.
func calls() []func(a, b api.Dyadic) outcome {
	return []func(a, b api.Dyadic) outcome{
		func(a, b api.Dyadic) outcome { return number(dyadic.Make(a.Man, b.Exp)) },
		func(a, b api.Dyadic) outcome { return outcome{n: dyadic.Sign(a)} },
		func(a, b api.Dyadic) outcome { return integer(dyadic.Compare(a, b)) },
		func(a, b api.Dyadic) outcome { return number(dyadic.Neg(a)) },
		func(a, b api.Dyadic) outcome { return number(dyadic.Abs(a)) },
		func(a, b api.Dyadic) outcome { return number(dyadic.Add(a, b)) },
		func(a, b api.Dyadic) outcome { return number(dyadic.Add(a, of(0, 3))) },
		func(a, b api.Dyadic) outcome { return number(dyadic.Add(of(0, 3), a)) },
		func(a, b api.Dyadic) outcome { return number(dyadic.Sub(a, b)) },
		func(a, b api.Dyadic) outcome { return number(dyadic.Sub(of(0, 3), a)) },
		func(a, b api.Dyadic) outcome { return number(dyadic.Mul(a, b)) },
		func(a, b api.Dyadic) outcome { return number(dyadic.Mul(a, of(1, 1))) },
		func(a, b api.Dyadic) outcome { return number(dyadic.Pow(a, 0)) },
		func(a, b api.Dyadic) outcome { return number(dyadic.Pow(a, 1)) },
		func(a, b api.Dyadic) outcome { return number(dyadic.Pow(a, 3)) },
		func(a, b api.Dyadic) outcome { return number(dyadic.Scale(a, b.Exp)) },
		func(a, b api.Dyadic) outcome { return number(dyadic.Round(a, b.Exp, api.Down)) },
		func(a, b api.Dyadic) outcome { return number(dyadic.Round(a, b.Exp, api.Up)) },
		func(a, b api.Dyadic) outcome { return number(dyadic.Round(a, -1000, api.Near)) },
		func(a, b api.Dyadic) outcome { return number(dyadic.Cut(a, 1, api.Near)) },
		func(a, b api.Dyadic) outcome { return number(dyadic.Cut(a, 70, api.Up)) },
		func(a, b api.Dyadic) outcome { return number(dyadic.Cut(a, 1<<30, api.Down)) },
		func(a, b api.Dyadic) outcome { return wholeNumber(dyadic.Whole(a, api.Near)) },
		func(a, b api.Dyadic) outcome {
			return wholeNumber(dyadic.Whole(api.Dyadic{Man: a.Man}, api.Up))
		},
		func(a, b api.Dyadic) outcome { return integer(dyadic.Top(a)) },
		func(a, b api.Dyadic) outcome { return integer(dyadic.Length(a)) },
		func(a, b api.Dyadic) outcome { return rational(dyadic.Ratio(a)) },
		func(a, b api.Dyadic) outcome { return number(dyadic.Min(a, b)) },
		func(a, b api.Dyadic) outcome { return number(dyadic.Max(a, b)) },
		func(a, b api.Dyadic) outcome { return number(dyadic.Middle(a, b)) },
		func(a, b api.Dyadic) outcome { return number(dyadic.Middle(of(0, 0), b)) },
		func(a, b api.Dyadic) outcome { return text(dyadic.Print(a)) },
		func(a, b api.Dyadic) outcome { return text(dyadic.Hex(a)) },
		func(a, b api.Dyadic) outcome { return number(dyadic.Sum(a)) },
		func(a, b api.Dyadic) outcome { return number(dyadic.Sum(a, b, a)) },
		func(a, b api.Dyadic) outcome {
			return number(dyadic.Dot([]api.Dyadic{a, b}, []api.Dyadic{b, b}))
		},
		func(a, b api.Dyadic) outcome { return number(dyadic.Value([]api.Dyadic{a}, b)) },
		func(a, b api.Dyadic) outcome { return number(dyadic.Value([]api.Dyadic{a, b, a}, b)) },
	}
}

// R3, R4: what is handed in stays as it is, and so does the room behind its
// end; what is in there does not change the answer; answers share no memory
// with it, nor with each other; asked again, a call answers the same.
func TestMemory(t *testing.T) {
	some := samples()
	for i, call := range calls() {
		for j, x := range some {
			y := some[(3*i+5*j+1)%len(some)]
			a, b := roomy(x), roomy(y)
			handed := []api.Nat{a.Man.Abs, b.Man.Abs}
			was := kept(handed)
			got := call(a, b)
			if !sameAs(handed, was) {
				t.Fatalf("call %d has changed what it was handed", i)
			}
			answers := kept(got.numbers)
			scribble(handed...)
			if !sameAs(got.numbers, answers) {
				t.Fatalf("call %d: an answer shares memory with what it was handed", i)
			}
			if again := call(clipped(x), clipped(y)); !again.same(got) {
				t.Fatalf("call %d answers another thing of %v and %v", i, short(x), short(y))
			}
			for k, n := range got.numbers {
				scribble(n)
				for other := range got.numbers {
					if other != k && !slices.Equal(all(got.numbers[other]), answers[other]) {
						t.Fatalf("call %d: two answers share memory", i)
					}
				}
				scribble(n)
			}
		}
	}
}

// R3: one number for all arguments is as good as different ones.
func TestSameNumberTwice(t *testing.T) {
	for i, call := range calls() {
		for _, x := range samples() {
			a := roomy(x)
			if apart, got := call(a, roomy(x)), call(a, a); !got.same(apart) {
				t.Fatalf("call %d of %v twice", i, short(x))
			}
		}
	}
}

// R4: a call answers what its arguments say when it is asked.
func TestAskedAgain(t *testing.T) {
	for i, call := range calls() {
		a, b := roomy(above(api.Nat{5, 7, 9}, -3)), roomy(below(api.Nat{12, 1}, 2))
		call(a, b)
		copy(a.Man.Abs, api.Nat{8, 0, 3})
		b.Man.Abs[0] = 0
		got := call(a, b)
		if wanted := call(above(api.Nat{8, 0, 3}, -3), below(api.Nat{0, 1}, 2)); !got.same(wanted) {
			t.Fatalf("call %d answers what was said before", i)
		}
	}
}

// R3: lists stay as they are, with the room behind their ends.
func TestMemoryOfLists(t *testing.T) {
	made := func() []api.Dyadic { return []api.Dyadic{of(12, -2), of(-5, 0), of(4, 3), of(9, 9)} }
	a, b := made(), made()
	for range 2 {
		got, e := dyadic.Sum(a[:3]...)
		want(t, "Sum", got, e, of(30, 0))
		got, e = dyadic.Dot(a[:3], b[:3])
		want(t, "Dot", got, e, of(9+25+32*32, 0))
		got, e = dyadic.Value(a[:3], of(2, 0))
		want(t, "Value", got, e, of(3-10+128, 0))
	}
	for i, wanted := range made() {
		if !same(a[i], wanted) || !same(b[i], wanted) {
			t.Errorf("%v and %v, not %v", a[i], b[i], wanted)
		}
	}
}

// R3: what a call has answered may be written over, and the next answer is as
// it should be.
func TestAnswersWrittenOver(t *testing.T) {
	for range 2 {
		for _, c := range []struct {
			got, want api.Dyadic
		}{
			{dyadic.Of(5), of(5, 0)},
			{must[api.Dyadic](t)(dyadic.Pow(of(3, 0), 0)), of(1, 0)},
			{must[api.Dyadic](t)(dyadic.Parse("5p3")), of(5, 3)},
			{must[api.Dyadic](t)(dyadic.Unhex("0x5p3")), of(5, 3)},
			{must[api.Dyadic](t)(dyadic.Round(of(1, -3), 2, api.Up)), of(1, 2)},
		} {
			want(t, "asked again", c.got, api.OK, c.want)
			scribble(c.got.Man.Abs)
		}
		r := must[api.Ratio](t)(dyadic.Ratio(of(3, 1)))
		wantRatio(t, "asked again", r, api.OK, of(6, 0).Man, api.Nat{1})
		scribble(r.Num.Abs, r.Den)
	}
}
