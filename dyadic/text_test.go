package dyadic_test

import (
	"math"
	"strconv"
	"strings"
	"testing"

	"surd/api"
	"surd/dyadic"
	"surd/nat"
	"surd/whole"
)

// wantText asks for a text.
func wantText(t *testing.T, what, got string, e api.Errno, wanted string) {
	t.Helper()
	if e != api.OK || got != wanted {
		t.Errorf("%s: %.80q, error %d; not %.80q", what, got, e, wanted)
	}
}

// The chapter's examples of texts.
func TestExamplesOfTexts(t *testing.T) {
	a, e := dyadic.Parse("-5p-3")
	want(t, "-5p-3", a, e, of(-5, -3))
	s, e := dyadic.Print(a)
	wantText(t, "-5p-3", s, e, "-5p-3")
	s, e = dyadic.Print(of(0, 9))
	wantText(t, "0", s, e, "0p0")
	a, e = dyadic.Parse("5")
	wantErr(t, "5", a, e, api.ErrDyadicText)
	s, e = dyadic.Hex(of(0, -9))
	wantText(t, "0", s, e, "0x0p+0")
}

// P8.9, P8.15: Print of every shape is the normal one's, and Parse of it is the
// number again.
func TestPrintParse(t *testing.T) {
	for _, a := range samples() {
		normal := canonical(a)
		s, e := dyadic.Print(a)
		wantText(t, "Print", s, e, whole.Print(normal.Man)+"p"+strconv.Itoa(normal.Exp))
		got, e := dyadic.Parse(s)
		want(t, s, got, e, a)
		got, e = dyadic.Parse(whole.Print(a.Man) + "p" + strconv.Itoa(a.Exp))
		want(t, "as it stands there", got, e, a)
	}
	for _, c := range []struct {
		s    string
		want api.Dyadic
	}{
		{"+0012p-003", of(3, -1)}, {"-0p5", of(0, 0)}, {"+0p+0", of(0, 0)}, {"000p-000", of(0, 0)}, {"12p+3", of(3, 5)}, {"-8p-3", of(-1, 0)}, {"1p1099511627776", of(1, far)}, {"-3p-1099511627776", of(-3, -far)}, {"4p-1099511627776", of(1, -far+2)},
		{"0p1099511627776", of(0, 0)}, {"1p-0001099511627776", of(1, -far)}, {"18446744073709551616p0", of(1, 64)},
	} {
		got, e := dyadic.Parse(c.s)
		want(t, c.s, got, e, c.want)
	}
}

// wrongBytes are texts of one right text, made wrong by a byte that stands
// anywhere in it.
func wrongBytes(right, allowed string) []string {
	var out []string
	for b := range 256 {
		c := string([]byte{byte(b)})
		if strings.Contains(allowed, c) {
			continue
		}
		for at := range len(right) + 1 {
			out = append(out, right[:at]+c+right[at:])
		}
	}
	return out
}

// P8.9: what is no dyadic's text.
func TestNoTexts(t *testing.T) {
	wrong := []string{
		"", "p", "5", "-5", "1p", "p1", "-p1", "+p1", "1p-", "1p+", "1p2p3", "1pp2", "1 p0", "1p 0", " 1p0", "1p0 ", "1P0", "0x1p0", "1.5p0", "1p0.5", "--1p0", "+-1p0", "1p--1", "1p+-1", "1-p0", "1p1-", "ap0", "1pa", "1_0p0", "1e5", "1p\x00", "１p0", "−1p0",
		"p1099511627777", "1p1099511627777x", "xp1099511627777", "1p99999999999999999999999999x",
	}
	for _, s := range append(wrong, wrongBytes("12p3", "0123456789p+-")...) {
		got, e := dyadic.Parse(s)
		wantErr(t, "Parse of "+strconv.Quote(s), got, e, api.ErrDyadicText)
	}
	for _, s := range []string{"1p1099511627777", "0p1099511627777", "-1p-1099511627777", "2p-1099511627777", "1p9223372036854775807", "1p-9223372036854775808", "1p9223372036854775808", "1p-99999999999999999999999999999999999999999"} {
		got, e := dyadic.Parse(s)
		wantErr(t, s, got, e, api.ErrArg)
	}
	for _, s := range []string{"2p1099511627776", "-12p1099511627775", "1024p1099511627767"} {
		got, e := dyadic.Parse(s)
		wantErr(t, s, got, e, api.ErrDyadicExp)
	}
}

// P8.9, P8.18: texts of MaxDigits bytes, and of one more, whatever they are.
func TestLongTexts(t *testing.T) {
	const most = api.MaxDigits
	noughts := strings.Repeat("0", most)
	for _, s := range []string{noughts[3:] + "7p1", "7p" + noughts[3:] + "1", "+7p+" + noughts[5:] + "1"} {
		got, e := dyadic.Parse(s)
		want(t, "Parse", got, e, of(7, 1))
		got, e = dyadic.Parse("+" + s)
		wantErr(t, "Parse of a byte more", got, e, api.ErrArg)
	}
	nines := "-" + strings.Repeat("9", most-6) + "p-777"
	a := must[api.Dyadic](t)(dyadic.Parse(nines[:len(nines)-1]))
	s, e := dyadic.Print(a)
	wantText(t, "nines", s, e, nines[:len(nines)-1])
	got, e := dyadic.Parse("1p" + strings.Repeat("9", most-2))
	wantErr(t, "a long exponent", got, e, api.ErrArg)
	got, e = dyadic.Parse("1p" + strings.Repeat("9", most-3) + "x")
	wantErr(t, "a long wrong exponent", got, e, api.ErrDyadicText)
	for _, s := range []string{noughts + "0", strings.Repeat("p", most+1), "1p" + strings.Repeat(" ", 2*most)} {
		got, e = dyadic.Parse(s)
		wantErr(t, "too many bytes", got, e, api.ErrArg)
		got, e = dyadic.Unhex(s)
		wantErr(t, "too many bytes", got, e, api.ErrArg)
	}
	for _, s := range []string{"0x" + noughts[5:] + "7p1", "0x7." + noughts[6:] + "p1", "0x7p" + noughts[5:] + "1", "0x7p+" + noughts[6:] + "1"} {
		got, e = dyadic.Unhex(s)
		want(t, "Unhex", got, e, of(7, 1))
		got, e = dyadic.Unhex("+" + s)
		wantErr(t, "Unhex of a byte more", got, e, api.ErrArg)
	}
	got, e = dyadic.Unhex("0x." + strings.Repeat("f", most-5) + "p4")
	want(t, "all digits", got, e, above(ones(4*(most-5)), 4-4*(most-5)))
	got, e = dyadic.Unhex("0x1p-" + strings.Repeat("9", most-5))
	wantErr(t, "a long exponent", got, e, api.ErrArg)
}

// hexOf is Hex's text, made bit by bit.
func hexOf(a api.Dyadic) string {
	a = canonical(a)
	length := nat.Length(a.Man.Abs)
	if length == 0 {
		return "0x0p+0"
	}
	text := "0x1"
	if a.Man.Neg {
		text = "-0x1"
	}
	for i := length - 2; i >= 0; i -= 4 {
		digit := 0
		for j := range 4 {
			digit = 2*digit + nat.Bit(a.Man.Abs, i-j)
		}
		if i == length-2 {
			text += "."
		}
		text += "0123456789abcdef"[digit : digit+1]
	}
	top := a.Exp + length - 1
	if top < 0 {
		return text + "p-" + strconv.Itoa(-top)
	}
	return text + "p+" + strconv.Itoa(top)
}

// P8.18, P8.19: Hex of every shape, and Unhex of it is the number again.
func TestHexUnhex(t *testing.T) {
	numbers := append(samples(), small()...)
	for i := range 20 {
		numbers = append(numbers, above(ones(i+1), -i), above(powerAnd(64+i, 1), 3-i), below(powerAnd(64+i, 1<<i), -64-i))
	}
	for _, a := range numbers {
		s, e := dyadic.Hex(a)
		wantText(t, "Hex", s, e, hexOf(a))
		got, e := dyadic.Unhex(s)
		want(t, s, got, e, a)
		got, e = dyadic.Unhex(strings.ToUpper(s))
		want(t, "in great letters", got, e, a)
	}
}

// P8.18: as Go writes and reads its floats.
func TestHexOfFloats(t *testing.T) {
	m := mix(10)
	for range 500 {
		size, exp := m.next()>>(11+m.below(53))|1, m.below(1000)-500
		f := math.Ldexp(float64(size), exp)
		s, e := dyadic.Hex(above(api.Nat{size}, exp))
		back, err := strconv.ParseFloat(s, 64)
		if e != api.OK || err != nil || back != f {
			t.Errorf("%d 2^%d: %q, error %d; %v", size, exp, s, e, err)
		}
		for _, text := range []string{strconv.FormatFloat(f, 'x', -1, 64), strconv.FormatFloat(f, 'X', 20, 64)} {
			got, e := dyadic.Unhex(text)
			want(t, text, got, e, above(api.Nat{size}, exp))
		}
	}
}

// P8.18: Unhex of texts that Hex does not write.
func TestUnhex(t *testing.T) {
	for _, c := range []struct {
		s    string
		want api.Dyadic
	}{
		{"0x.8p1", of(1, 0)}, {"0X8.P1", of(1, 4)}, {"+0xAb.cDp-003", of(43981, -11)}, {"-0x0p5", of(0, 0)}, {"-0x.0p+5", of(0, 0)}, {"0x0.p-7", of(0, 0)}, {"0x00012.3400p0", of(0x1234, -8)}, {"-0xffP-0", of(-255, 0)},
		{"0x1p1099511627776", of(1, far)}, {"0x1p-1099511627776", of(1, -far)}, {"0x0p1099511627776", of(0, 0)}, {"0x0.1p1099511627776", of(1, far-4)}, {"0x.10p1099511627776", of(1, far-4)}, {"0x10p-1099511627776", of(1, -far+4)}, {"0x1.0p-1099511627776", of(1, -far)},
		{"0x3.p1099511627776", of(3, far)}, {"0x0.02p+1099511627776", of(1, far-7)},
	} {
		got, e := dyadic.Unhex(c.s)
		want(t, c.s, got, e, c.want)
	}
	for _, s := range []string{"0x1p1099511627777", "0x0p1099511627777", "0x.0001p1099511627777", "-0x1p-1099511627777", "0x1000p-1099511627777", "0x1p9223372036854775808", "0x1p-9223372036854775809"} {
		got, e := dyadic.Unhex(s)
		wantErr(t, s, got, e, api.ErrArg)
	}
	for _, s := range []string{"0x2p1099511627776", "0x10p1099511627775", "0x.8p-1099511627776", "-0x1.8p-1099511627776", "0x0.1p-1099511627773"} {
		got, e := dyadic.Unhex(s)
		wantErr(t, s, got, e, api.ErrDyadicExp)
	}
}

// P8.18: what is no text of Unhex's.
func TestNoHex(t *testing.T) {
	wrong := []string{
		"", "0", "0x", "0xp", "0xp0", "0x.p0", "0x1", "0x1.", "0x1p", "0x1p+", "0x1p-", "0x1p.", "0x1p1.", "0x1p0x1", "0x1pa", "1p0", "x1p0", "00x1p0", "0x0x1p0", "0x1.1.1p0", "0x..1p0", "0xgp0", "0x1p 1", " 0x1p0", "0x1p0 ", "0x 1p0", "- 0x1p0",
		"--0x1p0", "+-0x1p0", "0x-1p0", "0x1-p0", "0x1p--1", "0x1p+-1", "0x1p1-", "0x1pp1", "0x1p1p1", "0x1_0p0", "0b1p0", "0o1p0", "1.8", "inf", "nan", "-", "+", ".", "-0x", "0x\u212ap0", "0xｆp0", "0x1\x00p0", "0x\xffp0",
		"0xp1099511627777", "0x1.1.1p1099511627777", "0x1p1099511627777x",
	}
	for _, s := range append(wrong, wrongBytes("0xa.bp1", "0123456789abcdefABCDEFpPxX.+-")...) {
		got, e := dyadic.Unhex(s)
		wantErr(t, "Unhex of "+strconv.Quote(s), got, e, api.ErrDyadicText)
	}
}

// P8.9, P8.18: numbers that are farther, or longer, than answers may be have
// texts too.
func TestTextsBeyond(t *testing.T) {
	s, e := dyadic.Print(of(6, far))
	wantText(t, "far", s, e, "3p1099511627777")
	s, e = dyadic.Hex(of(-6, far))
	wantText(t, "far", s, e, "-0x1.8p+1099511627778")
	s, e = dyadic.Hex(of(3, far))
	wantText(t, "a far top", s, e, "0x1.8p+1099511627777")
	got, e := dyadic.Unhex(s)
	wantErr(t, "a far top", got, e, api.ErrArg)
	s, e = dyadic.Hex(of(1, -far))
	wantText(t, "the least", s, e, "0x1p-1099511627776")
	for _, bits := range []int{api.MaxBits, api.MaxBits + 1, api.MaxBits + 130} {
		s, e = dyadic.Hex(above(ones(bits), 0))
		last := "08ce"[(bits-1)%4:][:1]
		digits := strings.Repeat("f", (bits-1)/4)
		if last != "0" {
			digits += last
		}
		wantText(t, "long", s, e, "0x1."+digits+"p+"+strconv.Itoa(bits-1))
	}
}
