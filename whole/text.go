package whole

import (
	"surd/api"
	"surd/numeral"
)

// base is the one in which whole numbers are written.
const base = 10

// Print: in decimal.
func Print(a api.Whole) string {
	var text []byte
	if isNegative(a) {
		text = append(text, '-')
	}
	digits, _ := numeral.Print(a.Abs, base)
	return string(append(text, digits...))
}

// Parse: an integer's text.
func Parse(s string) (api.Whole, api.Errno) {
	if len(s) > api.MaxDigits {
		return api.Whole{}, api.ErrArg
	}
	neg, digits := cutSign(s)
	size, e := numeral.Parse(digits, base)
	if e == api.ErrTextDigit {
		return api.Whole{}, api.ErrWholeText
	}
	return answered(neg, size, e)
}

// cutSign is whether `-` stands ahead, and what stands behind the sign.
func cutSign(s string) (bool, string) {
	if s != "" && (s[0] == '-' || s[0] == '+') {
		return s[0] == '-', s[1:]
	}
	return false, s
}
