package sturm

import (
	"skylantern/api"
	"skylantern/wide"
)

// Count returns the number of different real roots that are greater than a and at most b, or an error.
func Count(p api.Poly, a, b api.Ratio) (int, api.Errno) {
	if e := checkInterval(p, a, b); e != api.OK {
		return 0, e
	}
	c := &calc{}
	l := c.chainOf(p)
	return finish(c, c.changes(l, a)-c.changes(l, b))
}

// Total returns the number of different real roots, or an error.
func Total(p api.Poly) (int, api.Errno) {
	l, e := Chain(p)
	if e != api.OK {
		return 0, e
	}
	return changes(l, signBefore) - changes(l, signBehind), api.OK
}

// changes returns how often the sign changes in the values of a chain at a number.
func (c *calc) changes(chain []api.Poly, at api.Ratio) int {
	return changes(chain, func(p api.Poly) int { return c.sign(p, at) })
}

// changes returns how often the signs change that a function gives for the polynomials of a chain, zeros left out.
func changes(chain []api.Poly, sign func(p api.Poly) int) int {
	count, last := 0, 0
	for _, p := range chain {
		s := sign(p)
		if s*last < 0 {
			count++
		}
		if s != 0 {
			last = s
		}
	}
	return count
}

// signBehind returns the sign of a polynomial, which is not zero, behind all roots.
func signBehind(p api.Poly) int { return wide.Sign(p[len(p)-1]) }

// signBefore returns the sign of a polynomial, which is not zero, before all roots.
func signBefore(p api.Poly) int {
	if len(p)%2 == 0 {
		return -signBehind(p)
	}
	return signBehind(p)
}
