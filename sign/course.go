package sign

import "skylantern/api"

// course tells whether a polynomial, which is not the zero polynomial, is negative somewhere in an interval, however small that is. The polynomial is its odd part times a square, times a number with the sign of its leading coefficient; so the odd part, which has simple roots only, tells where it changes its sign.
type course struct {
	*calc
	chain []api.Poly // of the odd part
	lead  int        // the sign of the leading coefficient
}

// mark is a number with what a course tells about it.
type mark struct {
	at      api.Ratio
	changes int // of the sign in the values of the chain
	here    int // the sign of the odd part, times lead
	after   int // the sign of the polynomial immediately after the number
}

// mark returns a number as a mark.
func (c *course) mark(at api.Ratio) mark {
	m, last := mark{at: at}, 0
	for i, p := range c.chain {
		s := c.sign(p, at)
		if s*last < 0 {
			m.changes++
		}
		if s != 0 {
			last = s
		}
		if i == 0 {
			m.here = s * c.lead
		}
		if m.after == 0 {
			// At a root of the odd part, its derivative, which is the second one of the chain, is not 0.
			m.after = s * c.lead
		}
	}
	return m
}

// negative reports whether the polynomial is negative somewhere from one number to a greater one.
func (c *course) negative(from, to mark) bool {
	roots := from.changes - to.changes
	if to.here == 0 {
		roots--
	}
	// At each root between both numbers the sign changes.
	return from.after < 0 || roots > 0
}

// search halves an interval in which the polynomial is negative somewhere, until a function says of its end that it is enough. It goes on with the first half if the polynomial is negative somewhere in that, and otherwise with the second one.
func (c *course) search(from, to mark, enough func(to mark) bool) (mark, mark) {
	for c.Errno == api.OK && !enough(to) {
		middle := c.mark(c.middle(from.at, to.at))
		if c.negative(from, middle) {
			to = middle
		} else {
			from = middle
		}
	}
	return from, to
}
