package div

import (
	"math/bits"

	"surd/api"
	"surd/nat"
)

// divisor is a number above 0 to divide by, made ready once for many
// divisions: without the limbs 0 at its bottom, which need no dividing, and
// NORMALised, its highest bit being 1, without which guesses would be far off.
type divisor struct {
	limbs   api.Nat
	noughts int
	shift   int
}

func divisorOf(b api.Nat) divisor {
	b = trim(b)
	noughts := nat.Tail(b) / limbBits
	b = b[noughts:]
	limbs := make(api.Nat, len(b))
	shift := bits.LeadingZeros64(b[len(b)-1])
	shiftUp(limbs, b, shift)
	return divisor{limbs: limbs, noughts: noughts, shift: shift}
}

// both is a's quotient and rest, however great they are, with noughts at the
// top. They are new memory.
func (d divisor) both(a api.Nat) (api.Nat, api.Nat) {
	a = trim(a)
	if len(a) < d.noughts+len(d.limbs) {
		return nil, nat.Norm(a)
	}
	low, high := a[:d.noughts], a[d.noughts:]
	u := make(api.Nat, len(high)+1)
	u[len(high)] = shiftUp(u, high, d.shift)
	q := make(api.Nat, len(u)-len(d.limbs))
	divide(q, u, d.limbs)
	r := make(api.Nat, d.noughts+len(d.limbs))
	copy(r, low)
	shiftDown(r[d.noughts:], u[:len(d.limbs)], d.shift)
	return q, r
}

// rest is a's rest alone.
func (d divisor) rest(a api.Nat) api.Nat {
	_, r := d.both(a)
	return r
}
