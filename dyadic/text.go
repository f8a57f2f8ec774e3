package dyadic

import (
	"strconv"
	"strings"

	"surd/api"
	"surd/numeral"
	"surd/whole"
)

const (
	// hex is the base of Hex and Unhex, of hexBits bits a digit.
	hex     = 16
	hexBits = 4
)

// Print: its text.
func Print(a api.Dyadic) (string, api.Errno) {
	n, e := read(a)
	if e != api.OK {
		return "", e
	}
	return whole.Print(n.man()) + "p" + strconv.Itoa(n.exp), api.OK
}

// Parse: a dyadic's text.
func Parse(s string) (api.Dyadic, api.Errno) {
	if len(s) > api.MaxDigits {
		return api.Dyadic{}, api.ErrArg
	}
	ahead, behind, found := strings.Cut(s, "p")
	man, e := whole.Parse(ahead)
	if !found || e != api.OK {
		return api.Dyadic{}, api.ErrDyadicText
	}
	exp, e := parseExponent(behind)
	return answered(number{part: partOf(man), exp: exp}, e)
}

// Hex: its text in base 16.
func Hex(a api.Dyadic) (string, api.Errno) {
	n, e := read(a)
	switch {
	case e != api.OK:
		return "", e
	case n.isZero():
		return "0x0p+0", api.OK
	}
	text := "0x1"
	if n.neg {
		text = "-0x1"
	}
	behind := n.length() - 1
	if behind > 0 {
		// Filled up, the bits behind the first one are whole digits, and it is
		// a digit of its own.
		filled := shifted(n.size, (hexBits-behind%hexBits)%hexBits)
		digits, _ := numeral.Print(filled, hex)
		text += "." + digits[1:]
	}
	sign := "+"
	if n.top() < 0 {
		sign = ""
	}
	return text + "p" + sign + strconv.Itoa(n.top()), api.OK
}

// Unhex: such a text's number.
func Unhex(s string) (api.Dyadic, api.Errno) {
	if len(s) > api.MaxDigits {
		return api.Dyadic{}, api.ErrArg
	}
	neg, rest := cutSign(s)
	rest, found := cutMark(rest)
	at := strings.IndexAny(rest, "pP")
	if !found || at < 0 {
		return api.Dyadic{}, api.ErrDyadicText
	}
	ahead, behind, _ := strings.Cut(rest[:at], ".")
	// numeral takes small letters alone, and no point, nor no digits at all.
	size, e := numeral.Parse(strings.ToLower(ahead+behind), hex)
	if e != api.OK {
		return api.Dyadic{}, api.ErrDyadicText
	}
	exp, e := parseExponent(rest[at+1:])
	exp -= hexBits * len(behind)
	return answered(number{part: part{neg: neg, size: size}, exp: exp}, e)
}

// parseExponent is the number behind a p.
func parseExponent(s string) (int, api.Errno) {
	w, e := whole.Parse(s)
	if e != api.OK {
		return 0, api.ErrDyadicText
	}
	n, e := whole.Int(w)
	if e != api.OK || !isPosition(n) {
		return 0, api.ErrArg
	}
	return n, api.OK
}

// cutSign is whether `-` stands ahead, and what stands behind the sign.
func cutSign(s string) (bool, string) {
	if s != "" && (s[0] == '-' || s[0] == '+') {
		return s[0] == '-', s[1:]
	}
	return false, s
}

// cutMark is what stands behind the base's mark, and whether that is there.
func cutMark(s string) (string, bool) {
	if rest, found := strings.CutPrefix(s, "0x"); found {
		return rest, true
	}
	return strings.CutPrefix(s, "0X")
}
