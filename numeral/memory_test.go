package numeral_test

import (
	"slices"
	"testing"

	"surd/api"
	"surd/numeral"
)

// roomy lays a list into memory with room behind its end, and something in
// there.
func roomy[E int | uint64](l []E) []E {
	const room = 5
	whole := make([]E, len(l)+room)
	copy(whole, l)
	for i := range room {
		whole[len(l)+i] = E(0xfeed + i)
	}
	return whole[:len(l)]
}

// all is a list with the room behind its end.
func all[E int | uint64](l []E) []E { return l[:cap(l)] }

// scribble writes over a list and the room behind its end.
func scribble[E int | uint64](l []E) {
	for i := range all(l) {
		all(l)[i] ^= 0x55555555
	}
}

// wantKept asks that a list and the room behind its end are as they were.
func wantKept[E int | uint64](t *testing.T, what string, l, was []E) {
	t.Helper()
	if !slices.Equal(all(l), was) {
		t.Errorf("%s: memory has changed", what)
	}
}

// R3, R4: the number that is handed in stays as it is, and so does the room
// behind its end; what is in there does not change the answer; nor does it
// change an answer if the number is written over.
func TestMemoryOfNumbers(t *testing.T) {
	for _, base := range []int{2, 10, 35} {
		for _, x := range drawn() {
			a := roomy(x)
			was := slices.Clone(all(a))
			text, _ := numeral.Print(a, base)
			point, _ := numeral.Point(a, base, 3)
			n, _ := numeral.Length(a, base)
			digits, _ := numeral.Digits(a, base)
			wantKept(t, "handed in", a, was)
			kept := slices.Clone(all(digits))
			scribble(a)
			wantKept(t, "Digits", digits, kept)
			x = slices.Clip(x)
			wantPrint(t, x, base, text)
			wantPoint(t, x, base, 3, point)
			wantLength(t, x, base, n)
			wantDigits(t, x, base, digits...)
		}
	}
}

// R3, R4: the same of Build's digits.
func TestMemoryOfDigits(t *testing.T) {
	for _, base := range []int{2, 10, 35} {
		for _, x := range drawn() {
			digits, _ := numeral.Digits(x, base)
			l := roomy(digits)
			was := slices.Clone(all(l))
			a, _ := numeral.Build(base, l...)
			wantKept(t, "handed in", l, was)
			kept := slices.Clone(all(a))
			scribble(l)
			wantKept(t, "Build", a, kept)
			wantBuild(t, a, base, digits...)
		}
	}
}

// R3: two answers share no memory, and the next is as if nothing had been
// written over the last one.
func TestMemoryOfAnswers(t *testing.T) {
	for _, base := range []int{2, 10, 35} {
		for _, x := range drawn() {
			text, _ := numeral.Print(x, base)
			a, _ := numeral.Parse(text, base)
			b, _ := numeral.Parse(text, base)
			digits, _ := numeral.Digits(x, base)
			more, _ := numeral.Digits(x, base)
			kept, keptMore := slices.Clone(all(b)), slices.Clone(all(more))
			scribble(a)
			scribble(digits)
			wantKept(t, "Parse", b, kept)
			wantKept(t, "Digits", more, keptMore)
			wantParse(t, text, base, x)
			wantDigits(t, x, base, more...)
			wantPrint(t, x, base, text)
		}
	}
}

// R3: nil and empty lists are the same.
func TestNilIsEmpty(t *testing.T) {
	for _, a := range []api.Nat{nil, {}} {
		wantPrint(t, a, 10, "0")
		wantPoint(t, a, 10, 2, "0.00")
		wantLength(t, a, 10, 1)
		wantDigits(t, a, 10, 0)
	}
	wantBuild(t, nil, 10, nil...)
	wantBuild(t, nil, 10, []int{}...)
}
