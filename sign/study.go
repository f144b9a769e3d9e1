package sign

import (
	"skylantern/api"
	"skylantern/wide"
)

// study is a polynomial with what has been found out about it.
type study struct {
	calc
	p     api.Poly
	known *course        // nil until it is needed
	parts []api.SignPart // of a survey: those of SignPlain are right, those of SignSturm perhaps not
	below []api.Ratio    // of a survey: the first number that was found at which the polynomial is negative
}

// course returns the course of the polynomial, which is not the zero polynomial.
func (s *study) course() *course {
	if s.known == nil {
		s.known = &course{calc: &s.calc, lead: wide.Sign(s.p[len(s.p)-1])}
		s.known.chain = s.chainOfOdd(s.p)
	}
	return s.known
}

// holds reports whether a part, whose From is not greater than its To, is evidence of its kind.
func (s *study) holds(part api.SignPart) bool {
	switch {
	case part.Kind == api.SignPlain:
		return noneNegative(s.shifted(s.p, part.From, part.To))
	case len(s.p) == 0 || s.compare(part.From, part.To) == 0:
		return s.sign(s.p, part.From) >= 0
	}
	c := s.course()
	return !c.negative(c.mark(part.From), c.mark(part.To))
}

// survey finds parts from one number to another, or a number at which the polynomial is negative.
func survey(p api.Poly, a, b api.Ratio) *study {
	s := &study{p: p}
	// Some lists of shifted coefficients are found faster than a chain, and the more of them, the greater the degree is.
	s.visit(s.lowest(a), s.lowest(b), min(len(p)/2, 5))
	return s
}

// visit adds the parts from one number to another, which may be halved some times.
func (s *study) visit(from, to api.Ratio, times int) {
	if s.Errno != api.OK || len(s.below) > 0 {
		return
	}
	l := s.shifted(s.p, from, to)
	switch {
	case noneNegative(l):
		s.add(api.SignPlain, from, to)
	// The first and the last one have the signs of the values at the ends.
	case wide.Sign(l[0]) < 0:
		s.below = append(s.below, from)
	case wide.Sign(l[len(l)-1]) < 0:
		s.below = append(s.below, to)
	default:
		s.divide(from, to, times)
	}
}

// divide adds the parts of both halves, or one part of SignSturm if it must not be halved, or if the middle does not fit.
func (s *study) divide(from, to api.Ratio, times int) {
	middle := s.middle(from, to)
	if times == 0 || !endFits(middle) {
		s.add(api.SignSturm, from, to)
		return
	}
	s.visit(from, middle, times-1)
	s.visit(middle, to, times-1)
}

// add adds a part.
func (s *study) add(kind api.SignKind, from, to api.Ratio) {
	s.parts = append(s.parts, api.SignPart{Kind: kind, From: from, To: to})
}

// negative reports whether the polynomial is negative somewhere, after a survey.
func (s *study) negative() bool {
	if len(s.below) > 0 {
		return true
	}
	_, found := s.wrong()
	return found
}

// wrong returns the part of a survey in which the polynomial is negative somewhere, and whether there is one.
func (s *study) wrong() (api.SignPart, bool) {
	for _, part := range s.parts {
		if part.Kind == api.SignSturm && !s.holds(part) {
			return part, true
		}
	}
	return api.SignPart{}, false
}
