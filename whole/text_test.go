package whole_test

import (
	"strconv"
	"strings"
	"testing"

	"surd/api"
	"surd/numeral"
	"surd/whole"
)

func wantPrint(t *testing.T, a api.Whole, want string) {
	t.Helper()
	if got := whole.Print(a); got != want {
		t.Errorf("Print of %v: %.80q, not %.80q", short(a), got, want)
	}
}

func wantParse(t *testing.T, s string, want api.Whole) {
	t.Helper()
	a, e := whole.Parse(s)
	if e != api.OK {
		t.Errorf("Parse of %.80q: error %d", s, e)
		return
	}
	wantWhole(t, "Parse", a, want)
}

// The chapter's example 4.
func TestExamplesOfTexts(t *testing.T) {
	wantParse(t, "-007", of(-7))
	wantParse(t, "+0", of(0))
	wantPrint(t, below(api.Nat{0, 0}), "0")
	a, e := whole.Parse("-")
	wantErr(t, "Parse(-)", e, api.ErrWholeText, a)
}

// P6.9: ints, as Go writes and reads them.
func TestTextsOfInts(t *testing.T) {
	for _, n := range ints() {
		wantPrint(t, of(n), strconv.Itoa(n))
		wantParse(t, strconv.Itoa(n), of(n))
	}
	for n := -1000; n <= 1000; n++ {
		wantPrint(t, of(n), strconv.Itoa(n))
		wantParse(t, strconv.Itoa(n), of(n))
	}
}

// P6.9, P6.16: Print is the sign and the size's digits, and Parse of it is the
// number again, with noughts ahead and a plus too.
func TestThereAndBack(t *testing.T) {
	for _, a := range samples() {
		digits, _ := numeral.Print(a.Abs, 10)
		want, sign := digits, "+"
		if a.Neg && !isZero(a) {
			want, sign = "-"+digits, "-"
		}
		wantPrint(t, a, want)
		wantParse(t, want, a)
		wantParse(t, sign+"000"+digits, a)
		if sign == "+" {
			wantParse(t, "00"+digits, a)
		}
		if isZero(a) {
			wantParse(t, "-"+digits, of(0))
			wantParse(t, "-000", of(0))
		}
	}
}

// P6.9, P6.16: Print of Parse is the text without what says nothing.
func TestTextsAgain(t *testing.T) {
	for _, c := range [][2]string{
		{"0", "0"}, {"-0", "0"}, {"+0", "0"}, {"000", "0"}, {"-00", "0"}, {"007", "7"}, {"+7", "7"}, {"+007", "7"}, {"-7", "-7"}, {"-0070", "-70"},
		{"18446744073709551615", "18446744073709551615"}, {"-18446744073709551616", "-18446744073709551616"},
		{"+00340282366920938463463374607431768211456", "340282366920938463463374607431768211456"},
	} {
		a, e := whole.Parse(c[0])
		wantOK(t, c[0], a, e, a)
		wantPrint(t, a, c[1])
	}
}

// P6.9: what is no number's text.
func TestNoTexts(t *testing.T) {
	wrong := []string{
		"", "-", "+", "--1", "++1", "+-1", "-+1", "1-", "1+", " 1", "1 ", "- 1", "1 2", "1.0", "1.", ".1", "1e5", "0x1", "1_000", "1,000", "a", "1a", "a1",
		"\x00", "1\x00", "\n1", "1\n", "\xff", "1\xff", "½", "１", "−1", "1/2", "12:", "12/", "infinity", "nan", "-a",
	}
	for _, s := range wrong {
		a, e := whole.Parse(s)
		wantErr(t, "Parse of "+s, e, api.ErrWholeText, a)
	}
	for b := range 256 {
		if b >= '0' && b <= '9' {
			continue
		}
		for _, s := range []string{"1" + string([]byte{byte(b)}), "1" + string([]byte{byte(b)}) + "1", string([]byte{byte(b)})} {
			a, e := whole.Parse(s)
			wantErr(t, "Parse of a byte", e, api.ErrWholeText, a)
		}
	}
}

// P6.9: texts of MaxDigits bytes, and of one more, whatever they are.
func TestLongTexts(t *testing.T) {
	const most = api.MaxDigits
	wantParse(t, strings.Repeat("0", most-1)+"7", of(7))
	wantParse(t, "-"+strings.Repeat("0", most-2)+"7", of(-7))
	nines := "-" + strings.Repeat("9", most-1)
	a := must(t)(whole.Parse(nines))
	wantPrint(t, a, nines)
	wantWhole(t, "-99..9 - 1", must(t)(whole.Sub(a, of(1))), must(t)(whole.Neg(must(t)(whole.Pow(of(10), most-1)))))
	for _, s := range []string{strings.Repeat("0", most+1), "-" + strings.Repeat("1", most), strings.Repeat("x", most+1), "-" + strings.Repeat(" ", 2*most)} {
		a, e := whole.Parse(s)
		wantErr(t, "Parse of too many bytes", e, api.ErrArg, a)
	}
	a, e := whole.Parse(strings.Repeat("0", most-1) + "x")
	wantErr(t, "Parse of MaxDigits bytes", e, api.ErrWholeText, a)
}
