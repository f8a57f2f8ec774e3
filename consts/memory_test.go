package consts_test

import (
	"slices"
	"testing"

	"surd/api"
	"surd/consts"
)

// all is a number's limbs with the room behind their end.
func all(a api.Nat) api.Nat { return a[:cap(a)] }

// scribble writes over a number and the room behind its end.
func scribble(a api.Nat) {
	for i := range all(a) {
		all(a)[i] ^= 0x5555555555555555
	}
}

// R3, R4: an answer's ends share no memory, and a call that is made again
// answers the same, whatever was done to what it had answered.
func TestMemoryOfSpans(t *testing.T) {
	calls := constants()
	for _, k := range []int{1, 2, 3, 239, 11587, api.MaxIndex} {
		calls = append(calls, call{what: "Ln", of: func(p int) (api.Span, api.Errno) { return consts.Ln(k, p) }})
		if k > 1 {
			calls = append(calls, arctan(k), arctanh(k))
		}
	}
	for _, c := range calls {
		for _, p := range []int{0, 1, 61, 62, 63, 64, 200, 5000} {
			got, again := c.at(t, p), c.at(t, p)
			if !sameSpan(got, again) {
				t.Fatalf("%s at %d answers %v and %v", c.what, p, short(got), short(again))
			}
			hi := slices.Clone(all(got.Hi.Man.Abs))
			scribble(got.Lo.Man.Abs)
			if !slices.Equal(all(got.Hi.Man.Abs), hi) {
				t.Fatalf("%s at %d: the ends share memory", c.what, p)
			}
			scribble(got.Hi.Man.Abs)
			if later := c.at(t, p); !sameSpan(later, again) {
				t.Fatalf("%s at %d answers what was written over", c.what, p)
			}
		}
	}
}

// R3, R4: so of Bits, and Digit.
func TestMemoryOfBits(t *testing.T) {
	for _, c := range bitted() {
		for _, p := range []int{0, 1, 62, 63, 64, 200, 5000} {
			got, again := must[api.Whole](t)(consts.Bits(c, p)), must[api.Whole](t)(consts.Bits(c, p))
			if !sameWhole(got, again) {
				t.Fatalf("Bits(%d, %d) are not the same again", c, p)
			}
			digit := must[int](t)(consts.Digit(c, 10, p))
			scribble(got.Abs)
			if later := must[api.Whole](t)(consts.Bits(c, p)); !sameWhole(later, again) {
				t.Fatalf("Bits(%d, %d) are what was written over", c, p)
			}
			wantDigit(t, c, 10, p, digit)
		}
	}
}
