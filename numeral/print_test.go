package numeral_test

import (
	"math"
	"strings"
	"testing"

	"surd/api"
	"surd/div"
	"surd/nat"
	"surd/numeral"
)

// noBases are ints that are no bases.
func noBases() []int {
	return []int{leastBase - 1, 0, -1, -2, -10, mostBase + 1, 64, 256 + 10, 1<<32 + 10, math.MinInt, math.MaxInt}
}

// wantText asks for that text, and for no error.
func wantText(t *testing.T, what, got string, e api.Errno, want string) {
	t.Helper()
	if e != api.OK {
		t.Errorf("%s: error %d", what, e)
		return
	}
	if got != want {
		t.Errorf("%s: %.60q of %d bytes, not %.60q of %d", what, got, len(got), want, len(want))
	}
}

// wantNoText asks for that error, and for no text beside it.
func wantNoText(t *testing.T, what, got string, e, want api.Errno) {
	t.Helper()
	if e != want || got != "" {
		t.Errorf("%s: %.60q, error %d, not error %d", what, got, e, want)
	}
}

// wantPrint asks Print for that text.
func wantPrint(t *testing.T, a api.Nat, base int, want string) {
	t.Helper()
	got, e := numeral.Print(a, base)
	wantText(t, "Print", got, e, want)
}

// wantParse asks Parse for that number.
func wantParse(t *testing.T, s string, base int, want api.Nat) {
	t.Helper()
	got, e := numeral.Parse(s, base)
	wantOK(t, "Parse", got, e, want)
}

// wantNoParse asks Parse for that error.
func wantNoParse(t *testing.T, s string, base int, want api.Errno) {
	t.Helper()
	got, e := numeral.Parse(s, base)
	wantErr(t, "Parse", e, want, got)
}

// noughts is a text of n digits 0.
func noughts(n int) string { return strings.Repeat("0", n) }

// P5.1: the examples.
func TestPrintExamples(t *testing.T) {
	wantPrint(t, nat.From(255), 16, "ff")
	wantPrint(t, nil, 2, "0")
	wantPrint(t, nat.From(35), 36, "z")
	wantPrint(t, nat.From(36), 36, "10")
	wantPrint(t, nat.From(math.MaxUint64), 10, "18446744073709551615")
	wantPrint(t, api.Nat{0, 1}, 10, "18446744073709551616")
	wantPrint(t, api.Nat{0, 0, 1}, 10, "340282366920938463463374607431768211456")
	for _, base := range []int{1, 37} {
		s, e := numeral.Print(nat.From(5), base)
		wantNoText(t, "Print", s, e, api.ErrTextBase)
	}
}

// P5.1: the examples.
func TestParseExamples(t *testing.T) {
	wantParse(t, "00ff", 16, nat.From(255))
	wantNoParse(t, "FF", 16, api.ErrTextDigit)
	wantNoParse(t, "", 10, api.ErrTextDigit)
	wantNoParse(t, "12", 2, api.ErrTextDigit)
}

// P5.1: 0 is "0" in every base, in whatever shape, and nothing else is.
func TestPrintOfNought(t *testing.T) {
	for base := leastBase; base <= mostBase; base++ {
		for _, a := range []api.Nat{nil, {}, {0}, {0, 0, 0, 0}} {
			wantPrint(t, a, base, "0")
		}
		for n := range 100 {
			wantParse(t, noughts(n+1), base, nil)
		}
	}
}

// P5.1: each digit alone is its own number.
func TestEachDigit(t *testing.T) {
	for base := leastBase; base <= mostBase; base++ {
		for d := range base {
			wantPrint(t, nat.From(uint64(d)), base, figures[d:d+1])
			wantParse(t, figures[d:d+1], base, nat.From(uint64(d)))
		}
	}
}

// P5.1: numbers in all shapes, there and back, as digit by digit.
func TestPrintDigitByDigit(t *testing.T) {
	for base := leastBase; base <= mostBase; base++ {
		for _, a := range samples() {
			want := modelText(modelDigits(t, a, base))
			wantPrint(t, a, base, want)
			wantParse(t, want, base, a)
			wantParse(t, "000"+want, base, a)
		}
	}
}

// P5.1: numbers that are parted, there and back, as digit by digit.
func TestPrintOfLongNumbers(t *testing.T) {
	m := mix(2)
	for _, limbs := range []int{30, 53, 54, 55, 80, 101, 150, 203, 260} {
		for _, base := range []int{2, 3, 6, 7, 8, 10, 12, 24, 32, 35, 36} {
			for _, a := range []api.Nat{m.full(limbs), m.runs(limbs), m.nat(limbs)} {
				want := modelText(modelDigits(t, a, base))
				wantPrint(t, a, base, want)
				wantParse(t, want, base, a)
			}
		}
	}
}

// P5.1: texts of any length around those at which numbers are parted, there
// and back.
func TestParseDigitByDigit(t *testing.T) {
	m := mix(3)
	for _, n := range []int{63, 64, 65, 127, 129, 1023, 1024, 1025, 1087, 1089, 2047, 2048, 2049, 4096, 4097} {
		for _, base := range []int{2, 3, 10, 16, 20, 35, 36} {
			digits := make([]int, n)
			for i := range digits {
				digits[i] = m.below(base)
			}
			digits[0] = 1 + m.below(base-1)
			a := modelNumber(t, base, digits)
			wantParse(t, modelText(digits), base, a)
			wantPrint(t, a, base, modelText(digits))
		}
	}
}

// P5.1: the base's powers have one 1, those less 1 its highest digit alone.
func TestPowersOfTheBase(t *testing.T) {
	for base := leastBase; base <= mostBase; base++ {
		a := nat.From(1)
		for n := range 150 {
			wantAroundPower(t, a, base, n)
			a = must(t)(nat.Times(a, uint64(base)))
		}
		for _, n := range []int{1023, 1024, 1025, 2048, 2049, 3000, 4160, 10000} {
			wantAroundPower(t, powerOf(t, base, n), base, n)
		}
	}
}

// wantAroundPower asks for the texts of a, which is base^n, and of those beside
// it, there and back.
func wantAroundPower(t *testing.T, a api.Nat, base, n int) {
	t.Helper()
	one, text := nat.From(1), "1"+noughts(n)
	wantPrint(t, a, base, text)
	wantParse(t, text, base, a)
	if n == 0 {
		return
	}
	text = text[:n] + "1"
	wantPrint(t, plus(t, a, one), base, text)
	wantParse(t, text, base, plus(t, a, one))
	text = strings.Repeat(figures[base-1:base], n)
	wantPrint(t, minus(t, a, one), base, text)
	wantParse(t, text, base, minus(t, a, one))
}

// P5.1: noughts in the middle of a number are written, and read.
func TestNoughtsInTheMiddle(t *testing.T) {
	for _, base := range []int{2, 3, 10, 12, 35} {
		for _, n := range []int{10, 500, 1100, 2100, 9000} {
			for _, places := range []int{1, n / 3, n / 2, n - 1} {
				a := plus(t, powerOf(t, base, n), powerOf(t, base, places))
				text := "1" + noughts(n-places-1) + "1" + noughts(places)
				wantPrint(t, a, base, text)
				wantParse(t, text, base, a)
			}
		}
	}
}

// P5.1: a base that there is not, ahead of all else.
func TestPrintAndParseInNoBase(t *testing.T) {
	for _, base := range noBases() {
		for _, a := range []api.Nat{nil, {0}, {5}, {1, 2, 3}, make(api.Nat, 100)} {
			s, e := numeral.Print(a, base)
			wantNoText(t, "Print", s, e, api.ErrTextBase)
		}
		for _, s := range []string{"", "0", "5", "FF", " ", "\xff"} {
			wantNoParse(t, s, base, api.ErrTextBase)
		}
	}
}

// P5.1: of all bytes the base's digits alone are digits, small letters alone.
func TestParseOfEachByte(t *testing.T) {
	for base := leastBase; base <= mostBase; base++ {
		for c := range 256 {
			s := string([]byte{byte(c)})
			if d := strings.IndexByte(figures, byte(c)); d >= 0 && d < base {
				wantParse(t, s, base, nat.From(uint64(d)))
				continue
			}
			wantNoParse(t, s, base, api.ErrTextDigit)
			wantNoParse(t, s+"1", base, api.ErrTextDigit)
			wantNoParse(t, "1"+s, base, api.ErrTextDigit)
		}
	}
}

// P5.1: what is no digit is seen wherever it stands.
func TestParseOfWrongTexts(t *testing.T) {
	for _, s := range []string{
		" ", " 1", "1 ", "1 2", "+1", "-1", "-0", "1.5", ".", "1e5", "0x10", "1_000", "1,000", "\n", "1\n", "\x00", "1\x00",
		"\x80", "\xff", "١", "１", "é", "1é", "Z", "0O", "1/2", "inf", "NaN",
	} {
		wantNoParse(t, s, 10, api.ErrTextDigit)
	}
	for _, n := range []int{64, 1025, 5000} {
		for _, at := range []int{0, 1, n / 2, n - 1} {
			for _, fault := range []string{"a", "A", " ", ":", "/", "\xb0"} {
				text := strings.Repeat("7", at) + fault + strings.Repeat("7", n-at-1)
				wantNoParse(t, text, 10, api.ErrTextDigit)
				wantNoParse(t, noughts(at)+fault+noughts(n-at-1), 10, api.ErrTextDigit)
			}
		}
	}
}

// P5.1: however many noughts stand at the front, they say nothing.
func TestParseOfNoughtsAtTheFront(t *testing.T) {
	wantParse(t, noughts(2*api.MaxBits)+"19", 10, nat.From(19))
	for _, n := range []int{1, 63, 64, 1024, 1025, 100000} {
		front := noughts(n)
		wantParse(t, front, 2, nil)
		wantParse(t, front+"1", 10, nat.From(1))
		wantParse(t, front+"zz", 36, nat.From(1295))
	}
	m := mix(4)
	a := m.full(60)
	text, _ := numeral.Print(a, 10)
	wantParse(t, noughts(5000)+text, 10, a)
}

// R1: noughts at a number's top cost nothing to speak of.
func TestPrintOfNoughtsAtTheTop(t *testing.T) {
	m := mix(5)
	a := m.full(55)
	long := make(api.Nat, 1<<22)
	copy(long, a)
	for _, base := range []int{2, 10, 36} {
		want := modelText(modelDigits(t, a, base))
		wantPrint(t, long, base, want)
	}
}

// R6: a number of MaxBits bits is read, one with a bit more is ErrBig.
func TestParseAtMaxBits(t *testing.T) {
	wantParse(t, strings.Repeat("1", api.MaxBits), 2, ones(api.MaxBits))
	wantParse(t, "00"+strings.Repeat("1", api.MaxBits), 2, ones(api.MaxBits))
	wantNoParse(t, "1"+noughts(api.MaxBits), 2, api.ErrBig)
	wantParse(t, strings.Repeat("f", api.MaxBits/4), 16, ones(api.MaxBits))
	wantNoParse(t, "1"+noughts(api.MaxBits/4), 16, api.ErrBig)
	// 13421773 digits of 5 bits: one bit more than may be.
	const n = api.MaxBits / 5
	wantParse(t, "f"+strings.Repeat("v", n), 32, ones(api.MaxBits))
	wantNoParse(t, "g"+noughts(n), 32, api.ErrBig)
}

// R6: the same where the base is no power of two: 2^MaxBits is 2.3486.. times
// 24^14636731, and 1.0289.. times 3^42340979.
func TestParseInOtherBasesAtMaxBits(t *testing.T) {
	const n = 14636731
	a := must(t)(numeral.Parse("2"+noughts(n), 24))
	if nat.Length(a) != api.MaxBits || nat.Tail(a) != 3*n+1 {
		t.Errorf("2 times 24^%d has %d bits, and %d noughts at the bottom", n, nat.Length(a), nat.Tail(a))
	}
	// Beside its length its lowest bits tell which number it is.
	low := must(t)(nat.Low(must(t)(nat.Right(a, 3*n+1)), 4096))
	wantNat(t, "3^n", low, must(t)(div.Power(nat.From(3), nat.From(n), power(4096))))
	wantNoParse(t, "3"+noughts(n), 24, api.ErrBig)
	wantNoParse(t, "10"+noughts(n), 24, api.ErrBig)
	wantNoParse(t, "2"+noughts(42340979), 3, api.ErrBig)
}

// R6: ErrBig stands behind the chapter's own errors; and it ends at once,
// however long the text is.
func TestParseOfFarTooMany(t *testing.T) {
	text := "1" + noughts(1<<27)
	wantNoParse(t, text, 2, api.ErrBig)
	wantNoParse(t, text, 10, api.ErrBig)
	wantNoParse(t, text, 36, api.ErrBig)
	wantNoParse(t, text+"z", 35, api.ErrTextDigit)
}

// R6: a number of MaxBits bits or more is printed: a text is no number.
func TestPrintAtMaxBitsAndBeyond(t *testing.T) {
	wantPrint(t, ones(api.MaxBits), 2, strings.Repeat("1", api.MaxBits))
	wantPrint(t, ones(api.MaxBits), 32, "f"+strings.Repeat("v", api.MaxBits/5))
	for _, n := range []int{api.MaxBits, api.MaxBits + 4, api.MaxBits + 4000, 3*api.MaxBits + 8} {
		wantPrint(t, power(n), 16, "1"+noughts(n/4))
		wantPrint(t, ones(n), 16, strings.Repeat("f", n/4))
	}
	top := power(2*api.MaxBits + 64)
	top[0], top[1], top[len(top)-2] = 0xabc, 5, 7
	wantPrint(t, top, 16, "1"+noughts(15)+"7"+noughts(api.MaxBits/2-17)+"5"+noughts(13)+"abc")
}

// P5.1: better than quadratic: a number of 2^22 bits is printed and read at
// once; digit by digit that would take minutes.
func TestLongTextsEndSoon(t *testing.T) {
	m := mix(6)
	a := m.full(1 << 16)
	for _, base := range []int{3, 10} {
		text, e := numeral.Print(a, base)
		if e != api.OK {
			t.Fatalf("error %d", e)
		}
		wantParse(t, text, base, a)
		n, e := numeral.Length(a, base)
		if n != len(text) || e != api.OK {
			t.Errorf("Length in base %d: %d, error %d, not %d", base, n, e, len(text))
		}
	}
	const n = 1 << 20
	wantAroundPower(t, powerOf(t, 10, n), 10, n)
}
