package series_test

import (
	"slices"
	"testing"

	"surd/api"
	"surd/series"
)

// roomy lays a number into memory with room behind its end, and something in
// there.
func roomy(a api.Dyadic) api.Dyadic {
	const room = 5
	wide := make(api.Nat, len(a.Man.Abs)+room)
	copy(wide, a.Man.Abs)
	for i := range room {
		wide[len(a.Man.Abs)+i] = uint64(0xfeed + i)
	}
	a.Man.Abs = wide[:len(a.Man.Abs)]
	return a
}

// all is a number's limbs with the room behind their end.
func all(a api.Dyadic) api.Nat { return a.Man.Abs[:cap(a.Man.Abs)] }

// scribble writes over numbers and the room behind their ends.
func scribble(l ...api.Dyadic) {
	for _, a := range l {
		for i := range all(a) {
			all(a)[i] ^= 0x5555555555555555
		}
	}
}

// R3, R4: what is handed in stays as it is, and so does the room behind its end;
// what is in there does not change the answer; an answer shares no memory with
// it, nor do its ends; asked again, a call answers the same.
func TestMemory(t *testing.T) {
	for _, c := range calls() {
		for i, x := range append(shapes(c.top), tooGreat(c.top)...) {
			if len(x.Man.Abs) > 1000 {
				continue
			}
			p := 1 + 7*i%200
			a := roomy(x)
			was := slices.Clone(all(a))
			got, e := c.of(a, p)
			if !slices.Equal(all(a), was) {
				t.Fatalf("%s has changed what it was handed", c.what)
			}
			scribble(a)
			wantSameAgain(t, c.what, got, e, func() (api.Span, api.Errno) { return c.of(x, p) })
		}
	}
	for _, hyperbolic := range []bool{false, true} {
		for _, k := range []int{0, 2, 3, 1 << 20} {
			got, e := series.Part(k, hyperbolic, 300)
			wantSameAgain(t, "Part", got, e, func() (api.Span, api.Errno) { return series.Part(k, hyperbolic, 300) })
		}
	}
}

// wantSameAgain asks for the answer that was got from a call that is made once
// more, also when what was got is written over end by end.
func wantSameAgain(t *testing.T, what string, got api.Span, e api.Errno, call func() (api.Span, api.Errno)) {
	t.Helper()
	again, f := call()
	if e != f || !sameSpan(again, got) {
		t.Fatalf("%s answers %v and %v, errors %d and %d", what, short(got), short(again), e, f)
	}
	hi := slices.Clone(all(got.Hi))
	scribble(got.Lo)
	if !slices.Equal(all(got.Hi), hi) {
		t.Fatalf("%s: an answer's ends share memory", what)
	}
	scribble(got.Hi)
	if later, f := call(); e != f || !sameSpan(later, again) {
		t.Fatalf("%s answers what was written over", what)
	}
}
