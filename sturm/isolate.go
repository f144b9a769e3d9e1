package sturm

import (
	"skylantern/api"
	"skylantern/wide"
)

// Isolate returns an interval for each root that is greater than a and at most b, in increasing order, or an error.
func Isolate(p api.Poly, a, b api.Ratio, halvings int) ([]api.Interval, api.Errno) {
	if halvings < 0 || halvings > MaxHalvings {
		return nil, api.ErrArg
	}
	if e := checkInterval(p, a, b); e != api.OK {
		return nil, e
	}
	s := &search{halvings: halvings}
	s.chain = s.chainOf(p)
	from := s.end(s.ratio(wide.Ratio(a.Num, a.Den)))
	to := s.end(s.ratio(wide.Ratio(b.Num, b.Den)))
	s.visit(from, to, 0)
	return finish(&s.calc, s.found)
}

// search is a search for the roots of the polynomial that begins a chain.
type search struct {
	calc
	chain    []api.Poly
	halvings int
	found    []api.Interval
}

// end is an end of an interval, in lowest terms, with the changes of sign in the values of the chain.
type end struct {
	at      api.Ratio
	changes int
}

// end returns a number as an end.
func (s *search) end(at api.Ratio) end {
	return end{at, s.changes(s.chain, at)}
}

// visit finds the roots in an interval that has been made by some halvings.
func (s *search) visit(from, to end, depth int) {
	roots := from.changes - to.changes
	switch {
	case s.Errno != api.OK || roots == 0:
	case roots == 1:
		s.found = append(s.found, s.narrow(from.at, to.at, s.halvings-depth))
	case depth == MaxDepth:
		s.keep(api.ErrFull)
	default:
		middle := s.end(s.middle(from.at, to.at))
		s.visit(from, middle, depth+1)
		s.visit(middle, to, depth+1)
	}
}

// narrow halves an interval with a single root some times more, none if the number is not positive. The polynomial changes its sign at the root and nowhere else, so its sign alone tells the half, without the chain.
func (s *search) narrow(from, to api.Ratio, times int) api.Interval {
	first := s.signAfter(from)
	for range times {
		middle := s.middle(from, to)
		if s.sign(s.chain[0], middle) == first {
			from = middle
		} else {
			to = middle
		}
	}
	return api.Interval{From: from, To: to}
}

// signAfter returns the sign of the polynomial immediately after a number. If that is a root itself, the derivative, which has no root in common, tells it.
func (s *search) signAfter(at api.Ratio) int {
	if sign := s.sign(s.chain[0], at); sign != 0 {
		return sign
	}
	return s.sign(s.chain[1], at)
}
