package ratio_test

import (
	"slices"
	"testing"

	"surd/api"
	"surd/ratio"
)

// roomy lays a number into memory with room behind its end, and something in
// there.
func roomy(a api.Nat) api.Nat {
	const room = 5
	wide := make(api.Nat, len(a)+room)
	copy(wide, a)
	for i := range room {
		wide[len(a)+i] = uint64(0xfeed + i)
	}
	return wide[:len(a)]
}

// roomyRatio is a rational of such numbers.
func roomyRatio(r api.Ratio) api.Ratio {
	return api.Ratio{Num: api.Whole{Neg: r.Num.Neg, Abs: roomy(r.Num.Abs)}, Den: roomy(r.Den)}
}

// clipped is a rational somewhere else, without room.
func clipped(r api.Ratio) api.Ratio {
	return api.Ratio{Num: api.Whole{Neg: r.Num.Neg, Abs: slices.Clip(slices.Clone(r.Num.Abs))}, Den: slices.Clip(slices.Clone(r.Den))}
}

// all is a number's limbs with the room behind their end.
func all(a api.Nat) api.Nat { return a[:cap(a)] }

// scribble writes over numbers and the room behind their ends.
func scribble(l ...api.Nat) {
	for _, a := range l {
		for i := range all(a) {
			all(a)[i] ^= 0x5555555555555555
		}
	}
}

// kept is what numbers and the room behind their ends are, somewhere else.
func kept(l []api.Nat) []api.Nat {
	var out []api.Nat
	for _, a := range l {
		out = append(out, slices.Clone(all(a)))
	}
	return out
}

// sameAs: are numbers, with the room behind their ends, what was kept?
func sameAs(l, was []api.Nat) bool {
	return slices.EqualFunc(l, was, func(a, b api.Nat) bool { return slices.Equal(all(a), b) })
}

// outcome is what a call answers: numbers and their signs, ints or a text, and
// an error.
type outcome struct {
	numbers []api.Nat
	signs   []bool
	n       int
	text    string
	e       api.Errno
}

// same: are they the same answers?
func (o outcome) same(p outcome) bool {
	return o.n == p.n && o.text == p.text && o.e == p.e && slices.Equal(o.signs, p.signs) &&
		slices.EqualFunc(o.numbers, p.numbers, func(a, b api.Nat) bool { return slices.Equal(a, b) })
}

func ofRatio(r api.Ratio, e api.Errno) outcome {
	return outcome{numbers: []api.Nat{r.Num.Abs, r.Den}, signs: []bool{r.Num.Neg}, e: e}
}

func ofWhole(a api.Whole, e api.Errno) outcome {
	return outcome{numbers: []api.Nat{a.Abs}, signs: []bool{a.Neg}, e: e}
}

func ofInt(n int, e api.Errno) outcome { return outcome{n: n, e: e} }

func ofText(s string, e api.Errno) outcome { return outcome{text: s, e: e} }

func ofList(l []api.Whole, e api.Errno) outcome {
	out := outcome{e: e}
	for _, a := range l {
		out.numbers, out.signs = append(out.numbers, a.Abs), append(out.signs, a.Neg)
	}
	return out
}

func ofPair(a, b api.Ratio, e api.Errno) outcome {
	return outcome{numbers: []api.Nat{a.Num.Abs, a.Den, b.Num.Abs, b.Den}, signs: []bool{a.Num.Neg, b.Num.Neg}, e: e}
}

// calls are all calls that are handed numbers, as calls of two rationals.
func calls() []func(a, b api.Ratio) outcome {
	return []func(a, b api.Ratio) outcome{
		func(a, b api.Ratio) outcome { return ofRatio(ratio.Norm(a)) },
		func(a, b api.Ratio) outcome { return ofRatio(ratio.Make(a.Num, b.Num)) },
		func(a, b api.Ratio) outcome { return ofRatio(ratio.Neg(a)) },
		func(a, b api.Ratio) outcome { return ofRatio(ratio.Abs(a)) },
		func(a, b api.Ratio) outcome { return ofRatio(ratio.Add(a, b)) },
		func(a, b api.Ratio) outcome { return ofRatio(ratio.Sub(a, b)) },
		func(a, b api.Ratio) outcome { return ofRatio(ratio.Mul(a, b)) },
		func(a, b api.Ratio) outcome { return ofRatio(ratio.Quo(a, b)) },
		func(a, b api.Ratio) outcome { return ofInt(ratio.Compare(a, b)) },
		func(a, b api.Ratio) outcome { return ofInt(ratio.Sign(a)) },
		func(a, b api.Ratio) outcome { return ofWhole(ratio.At(a, 0, api.Down)) },
		func(a, b api.Ratio) outcome { return ofWhole(ratio.At(a, 70, api.Up)) },
		func(a, b api.Ratio) outcome { return ofWhole(ratio.At(a, -70, api.Near)) },
		func(a, b api.Ratio) outcome { return ofText(ratio.Print(a)) },
		func(a, b api.Ratio) outcome { return ofList(ratio.Chain(a)) },
		func(a, b api.Ratio) outcome { return ofRatio(ratio.Unchain(a.Num)) },
		func(a, b api.Ratio) outcome { return ofRatio(ratio.Unchain(a.Num, b.Num)) },
		func(a, b api.Ratio) outcome { return ofRatio(ratio.Unchain(a.Num, above(b.Den), above(a.Den))) },
		func(a, b api.Ratio) outcome { return ofRatio(ratio.Unchain(a.Num, below(b.Den), above(a.Den))) },
		func(a, b api.Ratio) outcome { return ofRatio(ratio.Simplest(a, b)) },
		func(a, b api.Ratio) outcome { return ofRatio(ratio.Simplest(b, b)) },
		func(a, b api.Ratio) outcome { return ofRatio(ratio.Best(a, b.Den)) },
		func(a, b api.Ratio) outcome { return ofRatio(ratio.Best(a, a.Den)) },
		func(a, b api.Ratio) outcome { return ofPair(ratio.Neighbours(a, b.Den)) },
		func(a, b api.Ratio) outcome { return ofPair(ratio.Neighbours(a, a.Den)) },
	}
}

// R3, R4: what is handed in stays as it is, and so does the room behind its
// end; what is in there does not change the answer; answers share no memory
// with it, nor with each other; asked again, a call answers the same.
func TestMemory(t *testing.T) {
	some := samples()
	for i, call := range calls() {
		for j, x := range some {
			y := some[(3*i+5*j+1)%len(some)]
			a, b := roomyRatio(x), roomyRatio(y)
			handed := []api.Nat{a.Num.Abs, a.Den, b.Num.Abs, b.Den}
			was := kept(handed)
			got := call(a, b)
			if !sameAs(handed, was) {
				t.Fatalf("call %d has changed what it was handed", i)
			}
			answers := kept(got.numbers)
			scribble(handed...)
			if !sameAs(got.numbers, answers) {
				t.Fatalf("call %d: an answer shares memory with what it was handed", i)
			}
			if again := call(clipped(x), clipped(y)); !again.same(got) {
				t.Fatalf("call %d answers another thing of %v and %v", i, short(x), short(y))
			}
			for k, n := range got.numbers {
				scribble(n)
				for other := range got.numbers {
					if other != k && !slices.Equal(all(got.numbers[other]), answers[other]) {
						t.Fatalf("call %d: two answers share memory", i)
					}
				}
				scribble(n)
			}
		}
	}
}

// R3: one rational for all arguments is as good as different ones.
func TestSameRatioTwice(t *testing.T) {
	for i, call := range calls() {
		for _, x := range samples() {
			a := roomyRatio(x)
			if apart, got := call(a, roomyRatio(x)), call(a, a); !got.same(apart) {
				t.Fatalf("call %d of %v twice", i, short(x))
			}
		}
	}
}

// R4: a call answers what its arguments say when it is asked.
func TestAskedAgain(t *testing.T) {
	for i, call := range calls() {
		a, b := clipped(of(22, 7)), clipped(of(355, 113))
		first := call(a, b)
		a.Num.Abs[0], b.Den[0] = 23, 112
		second := call(a, b)
		if want := call(of(23, 7), of(355, 112)); !second.same(want) {
			t.Errorf("call %d answers what was", i)
		}
		a.Num.Abs[0], b.Den[0] = 22, 113
		if third := call(a, b); !third.same(first) {
			t.Errorf("call %d answers another thing", i)
		}
	}
}

// R3: Unchain's list stays as it is, with the room behind its end, and is not
// kept.
func TestMemoryOfUnchain(t *testing.T) {
	for _, l := range [][]api.Whole{list(3, 7, 16, 9, 9), list(3, -7, 16, 9, 9)} {
		want := slices.Clone(l)
		r, e := ratio.Unchain(l[:3]...)
		first := must[api.Ratio](t)(ratio.Unchain(want[:3]...))
		for i, a := range l {
			wantWhole(t, "a number of the list", a, api.OK, want[i])
		}
		for i := range l {
			l[i] = api.Whole{}
		}
		wantLimbs(t, "Unchain", r, e, first.Num, first.Den)
	}
}

// R3: what Int, Parse and Chain answer is new each time.
func TestNewMemoryEachTime(t *testing.T) {
	a, b := ratio.Int(5), ratio.Int(5)
	scribble(a.Num.Abs, a.Den)
	wantRatio(t, "Int", b, api.OK, of(5, 1))
	r := read(t, "5/3")
	scribble(r.Num.Abs, r.Den)
	wantText(t, "5/3", of(5, 3))
	l := must[[]api.Whole](t)(ratio.Chain(of(415, 93)))
	for i := range l {
		scribble(l[i].Abs)
		l[i] = api.Whole{}
	}
	wantChain(t, "415/93", of(415, 93), list(4, 2, 6, 7))
}
