package numeral_test

import (
	"math"
	"strings"
	"testing"

	"surd/api"
	"surd/nat"
	"surd/numeral"
)

// mostPlaces is how many places there may be.
const mostPlaces = 1 << 20

// wantPoint asks Point for that text.
func wantPoint(t *testing.T, a api.Nat, base, places int, want string) {
	t.Helper()
	got, e := numeral.Point(a, base, places)
	wantText(t, "Point", got, e, want)
}

// modelPoint lays digits out from the lowest on.
func modelPoint(digits []int, places int) string {
	var out []string
	for i := 0; i < len(digits) || i <= places; i++ {
		if i == places && places > 0 {
			out = append(out, ".")
		}
		if i < len(digits) {
			out = append(out, figures[digits[len(digits)-1-i]:][:1])
		} else {
			out = append(out, "0")
		}
	}
	for i, j := 0, len(out)-1; i < j; i, j = i+1, j-1 {
		out[i], out[j] = out[j], out[i]
	}
	return strings.Join(out, "")
}

// P5.3: the examples.
func TestPointExamples(t *testing.T) {
	wantPoint(t, nat.From(314), 10, 2, "3.14")
	wantPoint(t, nat.From(5), 10, 3, "0.005")
	wantPoint(t, nil, 10, 1, "0.0")
	wantPoint(t, nat.From(7), 10, 0, "7")
}

// P5.3: any number, with fewer, as many and more places than it has digits.
func TestPointDigitByDigit(t *testing.T) {
	for base := leastBase; base <= mostBase; base++ {
		for _, a := range samples() {
			digits := modelDigits(t, a, base)
			n := len(digits)
			for _, places := range []int{0, 1, 2, n / 2, n - 1, n, n + 1, n + 2, n + 70, 2 * n} {
				if places >= 0 {
					wantPoint(t, a, base, places, modelPoint(digits, places))
				}
			}
		}
	}
}

// P5.3: without places there is no point, whatever the number is.
func TestPointWithoutPlaces(t *testing.T) {
	for base := leastBase; base <= mostBase; base++ {
		for _, a := range samples() {
			text, _ := numeral.Print(a, base)
			wantPoint(t, a, base, 0, text)
		}
	}
}

// P5.3: up to 2^20 places, of short numbers and of long ones.
func TestPointWithMostPlaces(t *testing.T) {
	wantPoint(t, nil, 10, mostPlaces, "0."+noughts(mostPlaces))
	wantPoint(t, nat.From(35), 36, mostPlaces, "0."+noughts(mostPlaces-1)+"z")
	wantPoint(t, power(mostPlaces), 2, mostPlaces, "1."+noughts(mostPlaces))
	wantPoint(t, ones(mostPlaces), 2, mostPlaces, "0."+strings.Repeat("1", mostPlaces))
	wantPoint(t, ones(mostPlaces+5), 2, mostPlaces, "11111."+strings.Repeat("1", mostPlaces))
}

// P5.3, R6: a number of more than MaxBits bits has a text, too.
func TestPointBeyondMaxBits(t *testing.T) {
	const n = api.MaxBits + 400
	wantPoint(t, power(n), 16, 50, "1"+noughts(n/4-50)+"."+noughts(50))
}

// P5.3: first the base, then the places.
func TestPointRefused(t *testing.T) {
	noPlaces := []int{-1, -2, mostPlaces + 1, 1 << 21, 1 << 32, 1 << 40, math.MinInt, math.MaxInt}
	for _, a := range []api.Nat{nil, {0}, {314}, {1, 2, 3}} {
		for _, places := range noPlaces {
			for _, base := range []int{2, 10, 36} {
				s, e := numeral.Point(a, base, places)
				wantNoText(t, "Point", s, e, api.ErrArg)
			}
		}
		for _, base := range noBases() {
			for _, places := range append(noPlaces, 0, 1, mostPlaces) {
				s, e := numeral.Point(a, base, places)
				wantNoText(t, "Point", s, e, api.ErrTextBase)
			}
		}
	}
}
