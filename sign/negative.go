package sign

import "skylantern/api"

// Negative reports whether a polynomial is negative somewhere from a to b, and returns such a number, or an error.
func Negative(p api.Poly, a, b api.Ratio) (api.Ratio, bool, api.Errno) {
	if e := check(p, a, b); e != api.OK {
		return api.Ratio{}, false, e
	}
	s := survey(p, a, b)
	if len(s.below) == 0 {
		s.search()
	}
	if s.Errno != api.OK || len(s.below) == 0 {
		return api.Ratio{}, false, s.Errno
	}
	return s.below[0], true, api.OK
}

// search looks for a number at which the polynomial is negative, after a survey that has found none.
func (s *study) search() {
	part, found := s.wrong()
	if !found {
		return
	}
	c := s.course()
	_, to := c.search(c.mark(part.From), c.mark(part.To), func(to mark) bool { return s.sign(s.p, to.at) < 0 })
	s.below = append(s.below, to.at)
}

// First returns an interval with the first number from which on a polynomial is negative, or an error.
func First(p api.Poly, a, b api.Ratio, halvings int) (api.Interval, api.Errno) {
	if halvings < 0 || halvings > MaxHalvings {
		return api.Interval{}, api.ErrArg
	}
	if e := check(p, a, b); e != api.OK {
		return api.Interval{}, e
	}
	s := survey(p, a, b)
	if !s.negative() {
		s.keep(api.ErrNone)
	}
	if s.Errno != api.OK {
		return api.Interval{}, s.Errno
	}
	c, left := s.course(), halvings
	from, to := c.search(c.mark(s.lowest(a)), c.mark(s.lowest(b)), func(mark) bool {
		left--
		return left < 0
	})
	return finish(&s.calc, api.Interval{From: from.at, To: to.at})
}
