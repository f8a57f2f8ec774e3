package elem_test

import (
	"slices"
	"testing"

	"surd/api"
)

// roomy lays a number into memory with room behind its end, and something in
// there.
func roomy(a api.Dyadic) api.Dyadic {
	const room = 5
	wide := make(api.Nat, len(a.Man.Abs)+room)
	copy(wide, a.Man.Abs)
	for i := range room {
		wide[len(a.Man.Abs)+i] = uint64(0xfeed + i)
	}
	a.Man.Abs = wide[:len(a.Man.Abs)]
	return a
}

// all is a number's limbs with the room behind their end.
func all(a api.Dyadic) api.Nat { return a.Man.Abs[:cap(a.Man.Abs)] }

// scribble writes over numbers and the room behind their ends.
func scribble(l ...api.Dyadic) {
	for _, a := range l {
		for i := range all(a) {
			all(a)[i] ^= 0x5555555555555555
		}
	}
}

// R3, R4: what is handed in stays as it is, and so does the room behind its end;
// what is in there does not change the answer; an answer shares no memory with
// it, nor do its ends; asked again, a call answers the same.
func TestMemory(t *testing.T) {
	m := mix(3)
	for _, c := range calls() {
		for _, p := range []int{1, 20, 62, 64, 66, 120, 124, 128, 300} {
			edges := c.edges(t, p)
			for range 40 {
				edges = append(edges, c.draw(t, &m, p))
			}
			for i, x := range edges {
				c.wantMemory(t, between(t, x, edges[(i*7+3)%len(edges)]), p)
				c.wantMemory(t, only(x), p)
			}
		}
	}
}

// wantMemory asks for it of one span.
func (c call) wantMemory(t *testing.T, s api.Span, p int) {
	t.Helper()
	a := api.Span{Lo: roomy(s.Lo), Hi: roomy(s.Hi)}
	lo, hi := slices.Clone(all(a.Lo)), slices.Clone(all(a.Hi))
	got, e := c.of(a, p)
	if !slices.Equal(all(a.Lo), lo) || !slices.Equal(all(a.Hi), hi) {
		t.Fatalf("%s has changed what it was handed", c.what)
	}
	scribble(a.Lo, a.Hi)
	again, f := c.of(s, p)
	if e != f || !sameSpan(again, got) {
		t.Fatalf("%s answers %v and %v, errors %d and %d", c.what, short(got), short(again), e, f)
	}
	upper := slices.Clone(all(got.Hi))
	scribble(got.Lo)
	if !slices.Equal(all(got.Hi), upper) {
		t.Fatalf("%s: an answer's ends share memory", c.what)
	}
	scribble(got.Hi)
	if later, f := c.of(s, p); e != f || !sameSpan(later, again) {
		t.Fatalf("%s answers what was written over", c.what)
	}
}

// R4: the answer hangs on the numbers, whatever shape they have.
func TestShapes(t *testing.T) {
	m := mix(4)
	other := func(a api.Dyadic) api.Dyadic {
		limbs := 1 + m.below(3)
		a.Man.Abs = append(append(make(api.Nat, limbs), a.Man.Abs...), 0, 0)
		a.Exp -= 64 * limbs
		if len(canonical(a).Man.Abs) == 0 {
			a.Man.Neg, a.Exp = !a.Man.Neg, far-m.below(5)
		}
		return a
	}
	for _, c := range calls() {
		for _, p := range []int{1, 64, 90} {
			edges := c.edges(t, p)
			for i, x := range edges {
				s := between(t, x, edges[(i*7+3)%len(edges)])
				if s.Lo.Exp < 300-far || s.Hi.Exp < 300-far {
					continue
				}
				got, e := c.of(s, p)
				again, f := c.of(api.Span{Lo: other(s.Lo), Hi: other(s.Hi)}, p)
				if e != f || !sameSpan(got, again) {
					t.Errorf("%s of %v at %d: %v and %v, errors %d and %d", c.what, short(s), p, short(got), short(again), e, f)
				}
			}
		}
	}
}
