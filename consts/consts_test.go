package consts_test

import (
	"strings"
	"testing"

	"surd/api"
	"surd/consts"
	"surd/ratio"
	"surd/span"
)

// digits are the first 100 digits of the constants, or 101.
func digits() map[string]string {
	return map[string]string{
		"Pi":     "3.1415926535897932384626433832795028841971693993751058209749445923078164062862089986280348253421170679",
		"LnTwo":  "0.6931471805599453094172321214581765680755001343602552541206800094933936219696947156058633269964186875",
		"E":      "2.7182818284590452353602874713526624977572470936999595749669676277240766303535475945713821785251664274",
		"Apery":  "1.2020569031595942853997381615114499907649862923404988817922715553418382057863130901864558736093352581",
		"Golden": "1.6180339887498948482045868343656381177203091798057628621354486227052604628189024497072072041893911374",
	}
}

// decimals is the span of all numbers that begin with a text's digits.
func decimals(t *testing.T, text string) api.Span {
	t.Helper()
	_, behind, _ := strings.Cut(text, ".")
	reckon, rational := must[api.Span](t), must[api.Ratio](t)
	r := rational(ratio.Parse(text))
	unit := rational(ratio.Parse("0." + strings.Repeat("0", len(behind)-1) + "1"))
	next := rational(ratio.Add(r, unit))
	return reckon(span.Hull(reckon(span.Of(r, -500)), reckon(span.Of(next, -500))))
}

// The chapter's examples.
func TestExamples(t *testing.T) {
	got, e := consts.Pi(0)
	wantEnclosure(t, "Pi", got, e, 0, decimals(t, "3.14159"))
	got, e = consts.Pi(-1)
	wantErr(t, "Pi(-1)", got, e)
	got, e = consts.Pi(1<<24 + 1)
	wantErr(t, "Pi(2^24 + 1)", got, e)
	got, e = consts.Ln(1, 100)
	if e != api.OK || !sameSpan(got, api.Span{}) {
		t.Errorf("Ln(1, 100) is %v, error %d", got, e)
	}
	got, e = consts.Ln(0, 1)
	wantErr(t, "Ln(0, 1)", got, e)
	got, e = consts.Arctan(1, 1)
	wantErr(t, "Arctan(1, 1)", got, e)
	for p := range 200 {
		twice := times(t, 2, must[api.Span](t)(consts.Arctanh(3, p)))
		if !meet(t, twice, decimals(t, digits()["LnTwo"])) {
			t.Errorf("Arctanh(3, %d) is not half of ln 2", p)
		}
	}
}

// P12.1, P12.11: digits that are known from elsewhere.
func TestKnownDigits(t *testing.T) {
	for _, c := range constants() {
		held := decimals(t, digits()[c.what])
		for _, p := range []int{0, 1, 2, 3, 10, 64, 100, 300} {
			c.wantAt(t, p, held)
		}
		if got, e := c.of(400); e != api.OK || !within(t, got, held) {
			t.Errorf("%s at 400: error %d, or other digits", c.what, e)
		}
	}
}

// P12.1, P12.11: all small precisions, and some others.
func TestConstants(t *testing.T) {
	for _, c := range constants() {
		held := c.model(t, 9000)
		for p := 0; p <= 8000; p += 1 + p/200 {
			c.wantAt(t, p, held)
		}
	}
}

// P12.1, P12.11: many bits.
func TestManyBits(t *testing.T) {
	for _, c := range constants() {
		if c.what == "Golden" {
			// The model has no more of Fibonacci's numbers.
			continue
		}
		held := c.model(t, 40000)
		for _, p := range []int{16383, 16384, 30011, 40000} {
			c.wantAt(t, p, held)
		}
	}
}

// parts are some k of an arc: the ends, and others.
func parts() []int {
	return []int{2, 3, 4, 5, 6, 7, 8, 9, 10, 18, 26, 57, 127, 128, 239, 251, 449, 1000, 4801, 8749, 9999, 16384, 19998, 19999, api.MaxIndex}
}

// P12.2: some arcs at all small precisions, and at some others.
func TestArcs(t *testing.T) {
	for _, k := range parts() {
		for _, c := range []call{arctan(k), arctanh(k)} {
			held := c.model(t, 3100)
			for p := 0; p <= 3000; p += 1 + p/60 {
				c.wantAt(t, p, held)
			}
		}
	}
}

// P12.2: all arcs.
func TestAllArcs(t *testing.T) {
	for k := 2; k <= api.MaxIndex; k++ {
		for _, c := range []call{arctan(k), arctanh(k)} {
			c.wantAt(t, k%80, c.model(t, k%80))
		}
	}
}

// P12.3: some logarithms at all small precisions, and at some others.
func TestLogarithms(t *testing.T) {
	for _, k := range append(parts(), 11, 13, 17, 19, 23, 37, 11587, 19993, 19997) {
		c := ln(k)
		held := c.model(t, 3100)
		for p := 0; p <= 3000; p += 1 + p/60 {
			c.wantAt(t, p, held)
		}
	}
}

// P12.3: all logarithms.
func TestAllLogarithms(t *testing.T) {
	for k := 2; k <= api.MaxIndex; k++ {
		c := ln(k)
		c.wantAt(t, k%80, c.model(t, k%80))
	}
}

// P12.3: that of 1 is 0 alone, at every precision, and nothing is reckoned.
func TestLogarithmOfOne(t *testing.T) {
	for _, p := range []int{0, 1, 64, 1000, api.MaxConst - 1, api.MaxConst} {
		if got, e := consts.Ln(1, p); e != api.OK || !sameSpan(got, api.Span{}) {
			t.Errorf("Ln(1, %d) is %v, error %d", p, short(got), e)
		}
	}
}
