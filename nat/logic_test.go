package nat_test

import (
	"testing"

	"surd/api"
	"surd/nat"
)

// P1.4: And, Or, Xor, of all pairs.
func TestLogic(t *testing.T) {
	for _, a := range samples() {
		for _, b := range samples() {
			x, y := modelOf(a), modelOf(b)
			wantNat(t, "And", nat.And(a, b), x.with(y, func(x, y byte) byte { return x * y }).nat())
			wantNat(t, "Or", nat.Or(a, b), x.with(y, func(x, y byte) byte { return max(x, y) }).nat())
			wantNat(t, "Xor", nat.Xor(a, b), x.with(y, func(x, y byte) byte { return (x + y) % 2 }).nat())
		}
	}
}

// P1.4: numbers beyond MaxBits bits have answers beyond it.
func TestLogicOfGreatNumbers(t *testing.T) {
	a, b := ones(api.MaxBits+100), append(ones(100), 0, 0)
	wantNat(t, "And", nat.And(a, a), a)
	wantNat(t, "And", nat.And(a, b), b)
	wantNat(t, "Or", nat.Or(b, a), a)
	wantNat(t, "Xor", nat.Xor(power(api.MaxBits+100), a), ones(api.MaxBits+101))
	wantNat(t, "Xor", nat.Xor(a, a), nil)
}

// P1.8: And and Or together are a + b; Xor is Or less And; Count(a) and
// Count(b) are Count(And) and Count(Or).
func TestLawsOfLogic(t *testing.T) {
	for _, a := range samples() {
		for _, b := range samples() {
			and, or, xor := nat.And(a, b), nat.Or(a, b), nat.Xor(a, b)
			sum, _ := nat.Add(a, b)
			both, e := nat.Add(and, or)
			wantOK(t, "And + Or", both, e, sum)
			less, e := nat.Sub(or, and)
			wantOK(t, "Or - And", less, e, xor)
			if nat.Count(a)+nat.Count(b) != nat.Count(and)+nat.Count(or) {
				t.Errorf("Counts of %v and %v", a, b)
			}
		}
	}
}
