package span

import (
	"surd/api"
	"surd/dyadic"
)

const (
	// mostTerms is how many numbers a polynomial may have.
	mostTerms = 1000
	// mostLooks is how many spans may be looked at for zeros.
	mostLooks = 1000
)

// Horner: a polynomial on a span, by Horner's rule.
func Horner(c []api.Dyadic, x api.Span, pos int) (api.Span, api.Errno) {
	if e := polynomialFault(c, x, pos); e != api.OK {
		return api.Span{}, e
	}
	var v api.Span
	var e api.Errno
	for i := len(c) - 1; i >= 0; i-- {
		if v, e = withTerm(v, x, c[i], pos); e != api.OK {
			return api.Span{}, e
		}
	}
	return v, api.OK
}

// polynomialFault is what is wrong with a polynomial, a span and a position.
func polynomialFault(c []api.Dyadic, x api.Span, pos int) api.Errno {
	if len(c) > mostTerms {
		return api.ErrArg
	}
	for _, d := range c {
		if !isPosition(d.Exp) {
			return api.ErrDyadicExp
		}
	}
	return faultAt(pos, x)
}

// withTerm is v times x, and d.
func withTerm(v, x api.Span, d api.Dyadic, pos int) (api.Span, api.Errno) {
	product, e := Mul(v, x, pos)
	if e != api.OK {
		return api.Span{}, e
	}
	alone, e := Point(d)
	if e != api.OK {
		return api.Span{}, e
	}
	return Add(product, alone, pos)
}

// Centred: a polynomial on a span, by the centred form.
func Centred(c []api.Dyadic, x api.Span, pos int) (api.Span, api.Errno) {
	if e := polynomialFault(c, x, pos); e != api.OK {
		return api.Span{}, e
	}
	m, e := dyadic.Middle(x.Lo, x.Hi)
	if e != api.OK {
		return api.Span{}, e
	}
	d, e := derivative(c)
	if e != api.OK {
		return api.Span{}, e
	}
	return aboutMiddle(c, d, x, api.Span{Lo: m, Hi: m}, pos)
}

// derivative is the numbers of c's derivative.
func derivative(c []api.Dyadic) ([]api.Dyadic, api.Errno) {
	var made []api.Dyadic
	for i := 1; i < len(c); i++ {
		d, e := dyadic.Mul(c[i], dyadic.Of(i))
		if e != api.OK {
			return nil, e
		}
		made = append(made, d)
	}
	return made, api.OK
}

// aboutMiddle is the value of c at x's middle, and what its derivative d on x
// makes of the way from there.
func aboutMiddle(c, d []api.Dyadic, x, middle api.Span, pos int) (api.Span, api.Errno) {
	value, e := Horner(c, middle, pos)
	if e != api.OK {
		return api.Span{}, e
	}
	slope, e := Horner(d, x, pos)
	if e != api.OK {
		return api.Span{}, e
	}
	way, e := Sub(x, middle, pos)
	if e != api.OK {
		return api.Span{}, e
	}
	more, e := Mul(slope, way, pos)
	if e != api.OK {
		return api.Span{}, e
	}
	return Add(value, more, pos)
}

// Zeros: the spans in which a polynomial may have a zero.
func Zeros(c []api.Dyadic, x api.Span, pos, most int) ([]api.Span, api.Errno) {
	switch e := polynomialFault(c, x, pos); {
	case e != api.OK:
		return nil, e
	case most < 1 || most > mostLooks:
		return nil, api.ErrArg
	}
	s := search{c: c, pos: pos, left: most}
	s.look(x)
	if s.e != api.OK {
		return nil, s.e
	}
	return s.kept, api.OK
}

// search goes from the left to the right through the spans in which c may have
// a zero. left is how many more may be looked at.
type search struct {
	c         []api.Dyadic
	pos, left int
	kept      []api.Span
	e         api.Errno
}

// look drops a span, keeps it, or looks at its halves.
func (s *search) look(x api.Span) {
	if s.left == 0 {
		s.keep(x)
		return
	}
	s.left--
	if s.misses(x) {
		return
	}
	lower, upper, ok := s.halves(x)
	if !ok {
		s.keep(x)
		return
	}
	s.look(lower)
	s.look(upper)
}

// misses: is it sure that c has no zero in x?
func (s *search) misses(x api.Span) bool {
	for _, value := range [2]func(c []api.Dyadic, x api.Span, pos int) (api.Span, api.Errno){Horner, Centred} {
		if v, e := value(s.c, x, s.pos); e == api.OK && !hasZero(v) {
			return true
		}
	}
	return false
}

// halves are those of a span that is to be parted.
func (s *search) halves(x api.Span) (lower, upper api.Span, ok bool) {
	width, e := dyadic.Sub(x.Hi, x.Lo)
	if e != api.OK || s.left == 0 || !less(api.Dyadic{Man: dyadic.Of(1).Man, Exp: s.pos}, width) {
		return api.Span{}, api.Span{}, false
	}
	lower, upper, e = Apart(x, s.pos-1)
	return lower, upper, e == api.OK
}

// keep takes a span into the answer. x itself may be too long for one; what
// Apart tells never is.
func (s *search) keep(x api.Span) {
	made, e := answered(x)
	if e != api.OK {
		s.e = e
	}
	s.kept = append(s.kept, made)
}
