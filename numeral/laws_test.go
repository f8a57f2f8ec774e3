package numeral_test

import (
	"cmp"
	"slices"
	"strings"
	"testing"

	"surd/api"
	"surd/nat"
	"surd/numeral"
)

// drawn are numbers of all lengths, some of them of more than one part.
func drawn() []api.Nat {
	m := mix(8)
	out := samples()
	for i := range 30 {
		out = append(out, m.nat(1+i*i/5), m.full(1+i*i/7), m.runs(1+i*i/6))
	}
	return out
}

// P5.4: Parse undoes Print, Build undoes Digits.
func TestThereAndBack(t *testing.T) {
	for base := leastBase; base <= mostBase; base++ {
		for _, a := range drawn() {
			text, e := numeral.Print(a, base)
			if e != api.OK {
				t.Fatalf("Print: error %d", e)
			}
			wantParse(t, text, base, a)
			digits, e := numeral.Digits(a, base)
			if e != api.OK {
				t.Fatalf("Digits: error %d", e)
			}
			wantBuild(t, a, base, digits...)
			if modelText(digits) != text {
				t.Errorf("Digits are not those of Print in base %d", base)
			}
		}
	}
}

// P5.4: Print of Parse(s) is s without its noughts at the front.
func TestBackAndThere(t *testing.T) {
	m := mix(9)
	for base := leastBase; base <= mostBase; base++ {
		for n := 1; n < 3000; n += 1 + n/3 {
			bytes := make([]byte, n)
			for i := range bytes {
				bytes[i] = figures[m.below(base)]
			}
			text := noughts(m.below(5)) + string(bytes)
			a, e := numeral.Parse(text, base)
			if e != api.OK {
				t.Fatalf("Parse: error %d", e)
			}
			want := strings.TrimLeft(text, "0")
			if want == "" {
				want = "0"
			}
			wantPrint(t, a, base, want)
		}
	}
}

// P5.5: of two numbers the one with more digits is greater; of as many, the one
// whose text stands later.
func TestOrderOfTexts(t *testing.T) {
	some := samples()
	for base := leastBase; base <= mostBase; base++ {
		var texts []string
		for _, a := range some {
			text, _ := numeral.Print(a, base)
			texts = append(texts, text)
		}
		for i, a := range some {
			for j, b := range some {
				order := cmp.Or(cmp.Compare(len(texts[i]), len(texts[j])), strings.Compare(texts[i], texts[j]))
				if order != nat.Compare(a, b) {
					t.Errorf("%v and %v in base %d: %q and %q", a, b, base, texts[i], texts[j])
				}
			}
		}
	}
}

// P5.6: Point's text without its point is, as Parse reads it, a.
func TestPointWithoutItsPoint(t *testing.T) {
	for _, base := range []int{2, 3, 10, 16, 36} {
		for _, a := range drawn() {
			for _, places := range []int{0, 1, 7, 100, 3000} {
				text, e := numeral.Point(a, base, places)
				if e != api.OK {
					t.Fatalf("Point: error %d", e)
				}
				at := strings.Index(text, ".")
				if places > 0 && len(text)-at-1 != places || places == 0 && at >= 0 {
					t.Errorf("%d places: %.60q", places, text)
				}
				wantParse(t, strings.ReplaceAll(text, ".", ""), base, a)
			}
		}
	}
}

// P5.2: Length is how many digits Print gives, and Digits.
func TestLengthIsThatOfPrint(t *testing.T) {
	for base := leastBase; base <= mostBase; base++ {
		for _, a := range drawn() {
			text, _ := numeral.Print(a, base)
			wantLength(t, a, base, len(text))
			digits, _ := numeral.Digits(a, base)
			if len(digits) != len(text) || slices.Max(digits) >= base || slices.Min(digits) < 0 {
				t.Errorf("%d digits in base %d, not %d", len(digits), base, len(text))
			}
		}
	}
}
