package nat_test

import (
	"slices"
	"testing"

	"surd/api"
	"surd/nat"
)

// call is a call's list, taken from two numbers.
type call struct {
	name string
	list func(a, b api.Nat) api.Nat
}

// calls are all that answer a list, the shifts by 0, within and beyond a limb.
func calls() []call {
	out := []call{
		{"Norm", func(a, _ api.Nat) api.Nat { return nat.Norm(a) }},
		{"Add", func(a, b api.Nat) api.Nat { s, _ := nat.Add(a, b); return s }},
		{"Sub", func(a, b api.Nat) api.Nat { s, _ := nat.Sub(a, b); return s }},
		{"And", nat.And}, {"Or", nat.Or}, {"Xor", nat.Xor},
	}
	for _, n := range []uint64{0, 1, 3, 64, 70, 128, 1000} {
		out = append(out,
			call{"Times", func(a, _ api.Nat) api.Nat { s, _ := nat.Times(a, n); return s }},
			call{"Through", func(a, _ api.Nat) api.Nat { s, _, _ := nat.Through(a, n); return s }},
			call{"Left", func(a, _ api.Nat) api.Nat { s, _ := nat.Left(a, int(n)); return s }},
			call{"Right", func(a, _ api.Nat) api.Nat { s, _ := nat.Right(a, int(n)); return s }},
			call{"Low", func(a, _ api.Nat) api.Nat { s, _ := nat.Low(a, int(n)); return s }})
	}
	return out
}

// roomy lays a into memory with room behind its end, and something in there.
func roomy(a api.Nat) api.Nat {
	const room = 5
	whole := make(api.Nat, len(a)+room)
	copy(whole, a)
	for i := range room {
		whole[len(a)+i] = 0xfeed + uint64(i)
	}
	return whole[:len(a)]
}

// all is a list with the room behind its end.
func all(a api.Nat) api.Nat { return a[:cap(a)] }

// scribble writes over a list and the room behind its end.
func scribble(a api.Nat) {
	for i := range all(a) {
		all(a)[i] ^= 0x5555555555555555
	}
}

// R3: what is handed in stays as it is, and so does the room behind its end;
// what is written over an answer does not reach it, nor the other way round.
// R4: what is in that room does not change the answer.
func TestMemory(t *testing.T) {
	some := samples()
	for _, c := range calls() {
		for i, x := range some {
			y := some[(i*7+3)%len(some)]
			a, b := roomy(x), roomy(y)
			wasA, wasB := slices.Clone(all(a)), slices.Clone(all(b))
			got := c.list(a, b)
			if !slices.Equal(all(a), wasA) || !slices.Equal(all(b), wasB) {
				t.Errorf("%s of %v, %v changes what is handed in", c.name, x, y)
			}
			wantNat(t, c.name+" with room behind", got, c.list(slices.Clip(x), slices.Clip(y)))
			scribble(got)
			if !slices.Equal(all(a), wasA) || !slices.Equal(all(b), wasB) {
				t.Errorf("%s of %v, %v answers what was handed in", c.name, x, y)
			}
			again := c.list(a, b)
			was := slices.Clone(all(again))
			scribble(a)
			scribble(b)
			if !slices.Equal(all(again), was) {
				t.Errorf("%s of %v, %v keeps what was handed in", c.name, x, y)
			}
		}
	}
}

// R3: two answers share no memory, also if what they are of is the same list.
func TestMemoryOfTwoAnswers(t *testing.T) {
	for _, c := range calls() {
		for _, x := range samples() {
			a := roomy(x)
			one := c.list(a, a)
			two := c.list(a, a)
			was := slices.Clone(all(two))
			scribble(one)
			if !slices.Equal(all(two), was) {
				t.Errorf("%s of %v: two answers share memory", c.name, x)
			}
			wantNat(t, c.name+" of one list twice", c.list(a, a), c.list(roomy(x), roomy(x)))
		}
	}
}

// R3: From's answers are new ones.
func TestMemoryOfFrom(t *testing.T) {
	one, two := nat.From(7), nat.From(7)
	scribble(one)
	wantNat(t, "From(7)", two, api.Nat{7})
}
