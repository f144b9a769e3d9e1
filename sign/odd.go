package sign

import (
	"skylantern/api"
	"skylantern/poly"
	"skylantern/sturm"
)

// Odd returns the polynomial with the roots of odd multiplicity, each of them once, or an error.
func Odd(p api.Poly) (api.Poly, api.Errno) {
	if !poly.Valid(p) {
		return nil, api.ErrArg
	}
	if len(p) == 0 {
		return nil, api.ErrRange
	}
	if !Fits(p) {
		return nil, api.ErrFull
	}
	c := &calc{}
	return finish(c, c.odd(p))
}

// odd returns the odd part of a polynomial that is not the zero polynomial.
func (c *calc) odd(p api.Poly) api.Poly {
	out := c.poly(poly.Of(1))
	rest := c.poly(poly.Primitive(p))
	for c.Errno == api.OK && len(rest) > 1 {
		// Of the roots that are left, the first polynomial has all, once, and the second one those that are left after that: the others have an odd multiplicity.
		first := c.poly(sturm.SquareFree(rest))
		rest = c.poly(poly.Divide(rest, first))
		second := c.poly(sturm.SquareFree(rest))
		rest = c.poly(poly.Divide(rest, second))
		out = c.poly(poly.Mul(out, c.poly(poly.Divide(first, second))))
	}
	return out
}

// chainOfOdd returns the chain (layer 3) of the odd part of a polynomial that is not the zero polynomial.
func (c *calc) chainOfOdd(p api.Poly) []api.Poly {
	l := c.chain(p)
	// Mostly all roots are simple, and the odd part is the square-free part.
	if c.Errno != api.OK || len(l[0]) == len(p) {
		return l
	}
	return c.chain(c.odd(p))
}

// chain returns the chain of a polynomial, and keeps its error.
func (c *calc) chain(p api.Poly) []api.Poly {
	l, e := sturm.Chain(p)
	c.keep(e)
	return l
}
