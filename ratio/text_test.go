package ratio_test

import (
	"slices"
	"strconv"
	"strings"
	"testing"

	"surd/api"
	"surd/nat"
	"surd/numeral"
	"surd/ratio"
	"surd/whole"
)

// wantText asks Parse for a number by its text.
func wantText(t *testing.T, s string, want api.Ratio) {
	t.Helper()
	got, e := ratio.Parse(s)
	wantRatio(t, strconv.Quote(s[:min(len(s), 40)]), got, e, want)
}

// wantNoText asks Parse to refuse a text.
func wantNoText(t *testing.T, s string, want api.Errno) {
	t.Helper()
	got, e := ratio.Parse(s)
	wantErr(t, strconv.Quote(s[:min(len(s), 40)]), e, want, got)
}

// The chapter's example 3, and texts like those.
func TestExamplesOfTexts(t *testing.T) {
	for s, want := range map[string]api.Ratio{
		"-0.50": of(-1, 2), "6/4": of(3, 2), "0": of(0, 1), "-0": of(0, 1), "-0.000": of(0, 1), "0/5": of(0, 1), "-0/5": of(0, 1), "00/03": of(0, 1),
		"007": of(7, 1), "-12": of(-12, 1), "0.1": of(1, 10), "00.10": of(1, 10), "12.5": of(25, 2), "-3.14159": of(-314159, 100000), "100.0": of(100, 1),
		"0.2": of(1, 5), "0.125": of(1, 8), "62.5": of(125, 2), "1.6": of(8, 5), "1024.4": of(5122, 5), "0.0625": of(1, 16), "3.00700": of(3007, 1000),
		"010/004": of(5, 2), "-9/3": of(-3, 1), "1/1": of(1, 1), "18446744073709551616/18446744073709551616": of(1, 1),
	} {
		wantText(t, s, want)
	}
	for s, want := range map[string]api.Ratio{"-3/2": of(-6, 4), "2": of(4, 2), "0": minus(of(0, 7)), "-5": of(-5, 1), "1/3": of(2, 6)} {
		if got, e := ratio.Print(want); got != s || e != api.OK {
			t.Errorf("Print: %q, error %d, not %q", got, e, s)
		}
	}
}

// P7.3: texts of no rational.
func TestTextsOfNone(t *testing.T) {
	for _, s := range []string{
		".5", "1.", "+1", "", "1/-2", "-", "--1", "-+1", "1-", "/", "1/", "/2", ".", "-.5", "-/2", "-1.", "1..2", "1.2.3", "1/2/3", "1.5/2", "1/2.5", "1//2", "./", "/.",
		" 1", "1 ", "1 /2", "1/ 2", "1e5", "1E5", "0x10", "a", "1a", "1.a", "1/a", "1.2a", "1/2a", "1,5", "1_000", "\x00", "1\x00", "1/\x00", "\xff", "١", "1/٢", "½", "−1", "1.-5", "1/+2", "1.5-", "∞", "NaN",
		"1/0a", "a/0", "1.0/0",
	} {
		wantNoText(t, s, api.ErrRatioText)
	}
	for _, s := range []string{"1/0", "0/0", "-1/0", "7/000", "-0/00000000000000000000000000", "18446744073709551616/0"} {
		wantNoText(t, s, api.ErrRatioZero)
	}
}

// P7.3: every byte, alone and behind a digit, is a digit or none.
func TestEveryByte(t *testing.T) {
	for b := range 256 {
		s := string([]byte{byte(b)})
		for _, text := range []string{s, "1" + s, "1." + s, "1/" + s + "1", "-" + s} {
			got, e := ratio.Parse(text)
			fits := b >= '0' && b <= '9' || text == "1/1" // "1" + "/" alone is none
			if fits != (e == api.OK) {
				t.Errorf("%q: %v, error %d", text, got, e)
			}
		}
	}
}

// P7.3: all small decimals, by ints.
func TestDecimals(t *testing.T) {
	ten := 1
	for places := range 4 {
		for v := range 3 * ten {
			whole, part := v/ten, strconv.Itoa(v%ten + ten)[1:]
			text := strconv.Itoa(whole)
			if places > 0 {
				text += "." + part
			}
			wantText(t, text, of(v, ten))
			wantText(t, "-0"+text, of(-v, ten))
			if places > 0 {
				wantText(t, text+"000", of(v, ten))
			}
		}
		ten *= 10
	}
}

// digits draws a text of digits.
func (m *mix) digits(n int) string {
	out := make([]byte, n)
	for i := range out {
		out[i] = byte('0' + m.below(10))
	}
	return string(out)
}

// number is a text of digits as a number.
func number(t *testing.T, digits string) api.Nat {
	t.Helper()
	return must[api.Nat](t)(numeral.Parse(digits, 10))
}

// tens is 10^n.
func tens(t *testing.T, n int) api.Nat {
	t.Helper()
	return number(t, "1"+strings.Repeat("0", n))
}

// P7.3: long texts of all three kinds.
func TestLongTexts(t *testing.T) {
	m := mix(8)
	for n := 1; n < 3000; n += 1 + n/4 {
		ahead, behind := m.digits(n), m.digits(1+m.below(n))
		wantText(t, "-"+ahead, minus(over(number(t, ahead), api.Nat{1})))
		wantText(t, ahead+"/7"+behind, over(number(t, ahead), number(t, "7"+behind)))
		for _, last := range []string{"5", "8", "3", "50", "00", "025"} {
			wantText(t, ahead+"."+behind+last, over(number(t, ahead+behind+last), tens(t, len(behind+last))))
		}
	}
}

// P7.3: decimals with many divisors in common with a power of ten: powers of 5
// and of 2, with a place more or less than they take.
func TestDecimalsOfPowers(t *testing.T) {
	five, two := api.Nat{1}, api.Nat{1}
	for n := range 300 {
		for _, power := range []api.Nat{five, two, times(five, api.Nat{3}), times(two, api.Nat{7})} {
			digits := must[string](t)(numeral.Print(power, 10))
			for _, places := range []int{1, max(n-1, 1), n + 1} {
				text := must[string](t)(numeral.Point(power, 10, places))
				wantText(t, text, over(number(t, digits), tens(t, places)))
			}
		}
		five, two = times(five, api.Nat{5}), times(two, api.Nat{2})
	}
}

// P7.7: Parse undoes Print, whatever the shape; and the text is that of the
// terms.
func TestThereAndBack(t *testing.T) {
	for _, r := range append(samples(), small(20, 20)...) {
		text, e := ratio.Print(r)
		if e != api.OK {
			t.Fatalf("Print of %v: error %d", short(r), e)
		}
		wantText(t, text, r)
		normal := must[api.Ratio](t)(ratio.Norm(r))
		want := whole.Print(normal.Num)
		if len(normal.Den) > 1 || normal.Den[0] > 1 {
			want += "/" + must[string](t)(numeral.Print(normal.Den, 10))
		}
		if text != want {
			t.Errorf("Print of %v: %q, not %q", short(r), text, want)
		}
	}
}

// P7.3, R6: what is too great, and what is not though its text is long.
func TestTextsAtTheLimit(t *testing.T) {
	const n = api.MaxBits
	noughts := strings.Repeat("0", n)
	wantText(t, noughts+"12", of(12, 1))
	wantText(t, "-3.5"+noughts, of(-7, 2))
	wantText(t, "3."+noughts, of(3, 1))
	wantText(t, noughts+"6/"+noughts+"4", of(3, 2))
	wantText(t, "0/"+noughts+"1"+noughts, of(0, 1))
	wantNoText(t, "0."+noughts+"1", api.ErrBig)
	wantNoText(t, "1"+noughts, api.ErrBig)
	wantNoText(t, "-1"+noughts+".5", api.ErrBig)
	wantNoText(t, "1"+noughts+"/3", api.ErrBig)
	wantNoText(t, "3/1"+noughts, api.ErrBig)
	wantNoText(t, "1"+noughts+"/"+noughts, api.ErrRatioZero)
	wantNoText(t, "1"+noughts+"/", api.ErrRatioText)
}

// P7.3, R6: a numerator that is too great until it is in lowest terms. 10^n has
// more than MaxBits bits from an n of 20,201,782 on.
func TestLongTextsAtTheLimit(t *testing.T) {
	const n, fewer = 20201790, 20
	noughts := strings.Repeat("0", n)
	r, e := ratio.Parse("-3" + noughts + "/15" + noughts[:fewer])
	// It is -2 10^(n - fewer - 1), of which a power of five is odd.
	if e != api.OK || !r.Num.Neg || !slices.Equal(r.Den, api.Nat{1}) || nat.Tail(r.Num.Abs) != n-fewer || nat.Length(r.Num.Abs) != 67108826 {
		t.Errorf("%v with %d bits, %d noughts behind, error %d", short(r), nat.Length(r.Num.Abs), nat.Tail(r.Num.Abs), e)
	}
	wantNoText(t, "7"+noughts, api.ErrBig)
	noughts += strings.Repeat("0", n/100)
	wantNoText(t, "3"+noughts+"/7", api.ErrBig)
	wantNoText(t, "-3/7"+noughts, api.ErrBig)
}

// P7.3: numbers beyond the limit are printed, if they are little in lowest
// terms.
func TestPrintBeyondTheLimit(t *testing.T) {
	const n = api.MaxBits
	for text, r := range map[string]api.Ratio{
		"-3/16": minus(over(append(make(api.Nat, n/64), 3), append(make(api.Nat, n/64), 16))), "1": over(ones(n+64), ones(n+64)), "0": over(nil, power(n)), "1024": over(power(3*n), power(3*n-10)),
	} {
		if got, e := ratio.Print(r); got != text || e != api.OK {
			t.Errorf("Print: %q, error %d, not %q", got, e, text)
		}
	}
}
