package ratio

import (
	"strings"

	"surd/api"
	"surd/div"
	"surd/nat"
	"surd/numeral"
	"surd/whole"
)

const (
	// base is the one in which rationals are written.
	base = 10
	// figures are its digits.
	figures = "0123456789"
)

// Parse: the rational of a text.
func Parse(s string) (api.Ratio, api.Errno) {
	return face(func() api.Ratio {
		size, neg := strings.CutPrefix(s, "-")
		at := strings.IndexAny(size, "./")
		if at < 0 {
			refuse(!isDigits(size), api.ErrRatioText)
			return decimal(neg, size, "")
		}
		ahead, behind := size[:at], size[at+1:]
		refuse(!isDigits(ahead) || !isDigits(behind), api.ErrRatioText)
		if size[at] == '.' {
			return decimal(neg, ahead, behind)
		}
		return quotient(neg, ahead, behind)
	})
}

// Print: as numerator and denominator.
func Print(r api.Ratio) (string, api.Errno) {
	return face(func() string {
		meant(r)
		r := lowest(r.Num, r.Den)
		text := whole.Print(r.Num)
		if isOne(r.Den) {
			return text
		}
		den, _ := numeral.Print(r.Den, base)
		return text + "/" + den
	})
}

// isDigits: is it one digit or more?
func isDigits(s string) bool { return s != "" && strings.TrimLeft(s, figures) == "" }

// decimal is the rational of the digits ahead of a point and behind it.
func decimal(neg bool, ahead, behind string) api.Ratio {
	// No numerator is below the whole part.
	num, e := numeral.Parse(ahead, base)
	refuse(e != api.OK, e)
	behind = strings.TrimRight(behind, "0")
	places := len(behind)
	if places == 0 {
		return api.Ratio{Num: signed(neg, num), Den: nat.From(1)}
	}
	// The last digit is not 0; so by 2, or by 5, the numerator can't be divided,
	// and all of them stay in the denominator.
	refuse(places >= api.MaxBits, api.ErrBig)
	den := powerOf(base, places)
	num = sum(product(num, den), read(behind))
	return fitting(without(signed(neg, num), den, sharedWithTens(num, places)))
}

// sharedWithTens is the greatest common divisor of 10^places and a, which is no
// multiple of 10: it takes less than Euclid.
func sharedWithTens(a api.Nat, places int) api.Nat {
	if nat.Bit(a, 0) == 0 {
		return shifted(nat.From(1), min(nat.Tail(a), places))
	}
	// Where what is left of a without all its fives is too great, so is a
	// numerator without some of them.
	fives, _, e := div.Split(a, nat.From(5))
	refuse(e != api.OK, e)
	return powerOf(5, min(fives, places))
}

// quotient is the rational of the digits ahead of a slash and behind it.
func quotient(neg bool, ahead, behind string) api.Ratio {
	ahead, behind = strings.TrimLeft(ahead, "0"), strings.TrimLeft(behind, "0")
	refuse(behind == "", api.ErrRatioZero)
	if ahead == "" {
		return Int(0)
	}
	refuse(farDigits(ahead, behind) || farDigits(behind, ahead), api.ErrBig)
	return answered(signed(neg, read(ahead)), read(behind))
}

// farDigits tells whether a number of those digits, of which the first is not
// 0, through one of the others is for sure more than a number of MaxBits bits:
// so is a term then. 10^28 is more than 2^93.
func farDigits(long, short string) bool { return (len(long)-1-len(short))/28*93 >= api.MaxBits }

// read is the number of digits: what numeral would refuse is read by halves.
func read(digits string) api.Nat {
	a, e := numeral.Parse(digits, base)
	if e == api.OK {
		return a
	}
	half := len(digits) / 2
	return sum(product(read(digits[:half]), powerOf(base, len(digits)-half)), read(digits[half:]))
}
