package consts_test

import (
	"strings"
	"testing"

	"surd/api"
	"surd/consts"
	"surd/dyadic"
	"surd/mul"
	"surd/nat"
	"surd/whole"
)

// bitted are the constants whose bits may be asked for.
func bitted() []api.Const { return []api.Const{api.ConstPi, api.ConstLnTwo, api.ConstE} }

// spanOf is the call that encloses one of these.
func spanOf(c api.Const) call { return constants()[c] }

// P12.4: the chapter's examples, and known ones.
func TestBits(t *testing.T) {
	for _, c := range []struct {
		c    api.Const
		p    int
		want string
	}{
		{api.ConstPi, 0, "3"}, {api.ConstPi, 1, "6"}, {api.ConstPi, 2, "12"}, {api.ConstPi, 10, "3216"}, {api.ConstPi, 64, "57952155664616982739"},
		{api.ConstLnTwo, 0, "0"}, {api.ConstLnTwo, 1, "1"}, {api.ConstLnTwo, 2, "2"}, {api.ConstLnTwo, 4, "11"}, {api.ConstLnTwo, 64, "12786308645202655659"},
		{api.ConstE, 0, "2"}, {api.ConstE, 1, "5"}, {api.ConstE, 3, "21"}, {api.ConstE, 64, "50143449209799256682"},
	} {
		got, e := consts.Bits(c.c, c.p)
		if e != api.OK || whole.Print(got) != c.want {
			t.Errorf("Bits(%d, %d) is %s, error %d, not %s", c.c, c.p, whole.Print(got), e, c.want)
		}
	}
}

// P12.4: all small precisions, by the model.
func TestBitsByTheModel(t *testing.T) {
	for _, c := range bitted() {
		held := spanOf(c).model(t, 2100)
		for p := range 2001 {
			got, e := consts.Bits(c, p)
			want := flooredAt(t, held, of(1, p))
			if e != api.OK || !sameWhole(got, want) {
				t.Errorf("Bits(%d, %d) is %s, error %d, not %s", c, p, whole.Print(got), e, whole.Print(want))
			}
		}
	}
}

// flooredAt is the greatest whole number that is not above any number of held
// times factor, where that is one.
func flooredAt(t *testing.T, held api.Span, factor api.Dyadic) api.Whole {
	t.Helper()
	floored := func(d api.Dyadic) api.Whole {
		product := must[api.Dyadic](t)(dyadic.Mul(d, factor))
		return must[api.Whole](t)(dyadic.Whole(product, api.Down))
	}
	lo, hi := floored(held.Lo), floored(held.Hi)
	if !sameWhole(lo, hi) {
		t.Fatalf("the model does not tell")
	}
	return lo
}

// P12.9: Bits go on. Behind some of these places all bits are the same for so
// long that the first ones that are looked at do not tell.
func TestBitsGoOn(t *testing.T) {
	reckon := must[api.Whole](t)
	for c, places := range map[api.Const][]int{
		api.ConstPi:    {11790, 58275, 80696, 84556, 95134, 112953, 117857, 135371},
		api.ConstLnTwo: {26249, 39172, 63248, 80049, 95178},
		api.ConstE:     {3624, 31683, 37168, 124522, 177754},
	} {
		const most = 180000
		all := reckon(consts.Bits(c, most))
		for p := 0; p < 3000; p += 1 + p/40 {
			places = append(places, p)
		}
		for _, at := range places {
			for p := max(at-1, 0); p <= at+1; p++ {
				want := reckon(whole.Shift(all, p-most))
				if got := reckon(consts.Bits(c, p)); !sameWhole(got, want) {
					t.Errorf("Bits(%d, %d) do not go on", c, p)
				}
			}
		}
	}
}

// P12.10: Bits are in the spans.
func TestBitsAreInTheSpans(t *testing.T) {
	for _, c := range bitted() {
		for p := 0; p < 1200; p += 1 + p/30 {
			bits := must[api.Whole](t)(consts.Bits(c, p))
			next := must[api.Whole](t)(whole.Add(bits, whole.Of(1)))
			for _, q := range []int{p, p + 1, p + 7, p + 64, 3*p + 100} {
				got := must[api.Span](t)(spanOf(c).of(q))
				if compare(t, got.Hi, api.Dyadic{Man: bits, Exp: -p}) < 0 || compare(t, got.Lo, api.Dyadic{Man: next, Exp: -p}) >= 0 {
					t.Errorf("Bits(%d, %d) are not in the span at %d", c, p, q)
				}
			}
		}
	}
}

// P12.5: the chapter's examples.
func TestDigitExamples(t *testing.T) {
	for _, c := range []struct {
		c             api.Const
		base, i, want int
	}{
		{api.ConstPi, 10, 0, 3}, {api.ConstPi, 10, 1, 1}, {api.ConstPi, 10, 2, 4}, {api.ConstPi, 10, 5, 9},
		{api.ConstPi, 16, 1, 2}, {api.ConstPi, 16, 2, 4}, {api.ConstPi, 16, 3, 3}, {api.ConstPi, 16, 4, 15}, {api.ConstE, 10, 1, 7},
	} {
		wantDigit(t, c.c, c.base, c.i, c.want)
	}
}

func wantDigit(t *testing.T, c api.Const, base, i, want int) {
	t.Helper()
	if got, e := consts.Digit(c, base, i); e != api.OK || got != want {
		t.Errorf("Digit(%d, %d, %d) is %d, error %d, not %d", c, base, i, got, e, want)
	}
}

// P12.5: of 0 the whole part, which may be no digit of the base.
func TestWholeParts(t *testing.T) {
	for base := 2; base <= 36; base++ {
		wantDigit(t, api.ConstPi, base, 0, 3)
		wantDigit(t, api.ConstLnTwo, base, 0, 0)
		wantDigit(t, api.ConstE, base, 0, 2)
	}
}

// P12.5: digits in base 10 that are known from elsewhere; the six 9s of pi are
// among them.
func TestDecimalDigits(t *testing.T) {
	for _, c := range bitted() {
		text := strings.Replace(digits()[spanOf(c).what], ".", "", 1)
		for i, digit := range text {
			wantDigit(t, c, 10, i, int(digit-'0'))
		}
	}
	for i, digit := range "134999999837" {
		wantDigit(t, api.ConstPi, 10, 759+i, int(digit-'0'))
	}
	for c, text := range map[api.Const]string{
		api.ConstPi:    "937519577818577805321712268066130019278766111959092164201989",
		api.ConstLnTwo: "706118923678919237231467232172053401649256872747782344535347",
		api.ConstE:     "103837505101157477041718986106873969655212671546889570350354",
	} {
		for i, digit := range text {
			wantDigit(t, c, 10, 1000-len(text)+1+i, int(digit-'0'))
		}
	}
}

// P12.5: every base, by the model.
func TestDigitsByTheModel(t *testing.T) {
	for _, c := range bitted() {
		held := spanOf(c).model(t, 1200)
		for base := 2; base <= 36; base++ {
			for i := 1; i < 200; i += 1 + i/8 {
				power := must[api.Nat](t)(mul.Pow(nat.From(uint64(base)), i))
				all := flooredAt(t, held, api.Dyadic{Man: api.Whole{Abs: power}})
				_, last, _ := nat.Through(all.Abs, uint64(base))
				wantDigit(t, c, base, i, int(last))
			}
		}
	}
}

// P12.5: the last places that may be asked for; these digits were found by
// another program.
func TestLastDigits(t *testing.T) {
	for _, c := range []struct {
		base, i int
		want    [3]int
	}{
		{10, 99999, [3]int{4, 7, 5}},
		{10, 100000, [3]int{6, 3, 8}},
		{2, 99999, [3]int{0, 0, 0}},
		{2, 100000, [3]int{0, 1, 1}},
		{7, 50000, [3]int{4, 6, 6}},
		{16, 100000, [3]int{5, 5, 10}},
		{35, 77777, [3]int{20, 31, 12}},
		{36, 100000, [3]int{14, 18, 13}},
	} {
		for i, want := range c.want {
			wantDigit(t, bitted()[i], c.base, c.i, want)
		}
	}
}

// P12.9: a digit in base 2 is the last bit of Bits.
func TestDigitsInBaseTwo(t *testing.T) {
	for _, c := range bitted() {
		for i := 1; i < 6000; i += 1 + i/100 {
			bits := must[api.Whole](t)(consts.Bits(c, i))
			wantDigit(t, c, 2, i, nat.Bit(bits.Abs, 0))
		}
	}
}

// Digits in a base that is a power of two are Bits, by groups.
func TestDigitsAreGroupsOfBits(t *testing.T) {
	for _, c := range bitted() {
		for _, group := range []int{2, 3, 4, 5} {
			base := 1 << group
			all := must[api.Whole](t)(consts.Bits(c, 300*group))
			for i := 1; i <= 300; i++ {
				want := 0
				for bit := range group {
					want |= nat.Bit(all.Abs, (300-i)*group+bit) << bit
				}
				wantDigit(t, c, base, i, want)
			}
		}
	}
	for i, digit := range "243f6a8885a308d313198a2e03707344a4093822299f31d0082efa98ec4e6c89" {
		wantDigit(t, api.ConstPi, 16, i+1, strings.IndexRune("0123456789abcdef", digit))
	}
}
