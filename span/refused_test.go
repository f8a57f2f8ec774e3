package span_test

import (
	"math"
	"testing"

	"surd/api"
	"surd/span"
)

// noPositions are ints that are none.
func noPositions() []int { return []int{far + 1, -far - 1, math.MaxInt, math.MinInt} }

// The order of errors: from the left, of a span its exponents, then its order;
// then the position; then what the call says.
func TestOrderOfErrors(t *testing.T) {
	good := ints(-1, 2)
	all := append(calls(), call{what: "Scale", of: func(a, _ api.Span, pos int) (api.Span, api.Errno) { return span.Scale(a, pos) }})
	all = append(all, call{what: "Apart", of: func(a, _ api.Span, pos int) (api.Span, api.Errno) {
		lower, upper, e := span.Apart(a, pos)
		if e != api.OK && !sameSpan(upper, api.Span{}) {
			return upper, e
		}
		return lower, e
	}})
	for wanted, faults := range unlike() {
		for _, bad := range faults {
			for _, c := range append(all, sets()...) {
				for _, pos := range append(noPositions(), 0) {
					for _, other := range append(unlike()[api.ErrSpanOrder], good) {
						got, e := c.of(bad, other, pos)
						wantErr(t, c.what+" of what means nothing", got, e, wanted)
					}
					if c.two {
						got, e := c.of(good, bad, pos)
						wantErr(t, c.what+" with what means nothing", got, e, wanted)
					}
				}
			}
		}
	}
	for _, c := range all {
		for _, pos := range noPositions() {
			for _, a := range []api.Span{good, from(minus(beyond()), long())} {
				got, e := c.of(a, a, pos)
				wantErr(t, c.what+" at no position", got, e, api.ErrArg)
			}
		}
	}
}

// P10.7: the errors of what tells no span.
func TestAsksRefused(t *testing.T) {
	good, wrong := ints(-1, 2), of(0, far+1)
	for wanted, faults := range unlike() {
		for _, bad := range faults {
			if got, e := span.Has(bad, wrong); got || e != wanted {
				t.Errorf("Has of what means nothing: %v, error %d; not %d", got, e, wanted)
			}
			for _, other := range append(unlike()[api.ErrSpanOrder], good) {
				if got, e := span.Within(bad, other); got || e != wanted {
					t.Errorf("Within of what means nothing: %v, error %d; not %d", got, e, wanted)
				}
				if got, e := span.Order(bad, other); got != 0 || e != wanted {
					t.Errorf("Order of what means nothing: %d, error %d; not %d", got, e, wanted)
				}
			}
			if got, e := span.Within(good, bad); got || e != wanted {
				t.Errorf("Within what means nothing: %v, error %d; not %d", got, e, wanted)
			}
			if got, e := span.Order(good, bad); got != 0 || e != wanted {
				t.Errorf("Order with what means nothing: %d, error %d; not %d", got, e, wanted)
			}
			if got, e := span.Sign(bad); got != 0 || e != wanted {
				t.Errorf("Sign of what means nothing: %d, error %d; not %d", got, e, wanted)
			}
			width, e := span.Width(bad)
			wantNumberErr(t, "Width", width, e, wanted)
			middle, e := span.Middle(bad)
			wantNumberErr(t, "Middle", middle, e, wanted)
		}
	}
	for _, d := range []api.Dyadic{wrong, of(1, -far-1), of(1, math.MinInt)} {
		if got, e := span.Has(good, d); got || e != api.ErrDyadicExp {
			t.Errorf("Has what means nothing: %v, error %d", got, e)
		}
	}
}
