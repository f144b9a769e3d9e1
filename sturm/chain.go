package sturm

import (
	"skylantern/api"
	"skylantern/poly"
	"skylantern/wide"
)

// SquareFree returns the polynomial with the same roots, each of them once, or an error.
func SquareFree(p api.Poly) (api.Poly, api.Errno) {
	l, e := Chain(p)
	if e != api.OK {
		return nil, e
	}
	return l[0], api.OK
}

// Chain returns the chain of a polynomial, or an error.
func Chain(p api.Poly) ([]api.Poly, api.Errno) {
	if e := check(p); e != api.OK {
		return nil, e
	}
	c := &calc{}
	return finish(c, c.chainOf(p))
}

// chainOf returns the chain of a polynomial that is not the zero polynomial.
func (c *calc) chainOf(p api.Poly) []api.Poly {
	l := c.rests(p)
	// The rests end with the greatest common divisor of the polynomial and its derivative, whatever its sign. Mostly it is a constant, and they are the chain.
	common := l[len(l)-1]
	if len(common) <= 1 {
		return l
	}
	return c.rests(c.poly(poly.Divide(l[0], common)))
}

// rests returns a polynomial that is not zero, as a primitive one with a positive leading coefficient, then its derivative, and then the negative rest of the two before, as long as it is not zero; all of them are primitive.
func (c *calc) rests(p api.Poly) []api.Poly {
	x := c.poly(poly.Primitive(p))
	if negativeLead(x) {
		x = c.opposite(x)
	}
	y := c.poly(poly.Primitive(c.poly(poly.Derive(x))))
	l := []api.Poly{x}
	for len(y) > 0 {
		l = append(l, y)
		x, y = y, c.next(x, y)
	}
	return l
}

// next returns the primitive polynomial that is a positive multiple of the negative remainder of two polynomials, the second one of which is not zero.
func (c *calc) next(x, y api.Poly) api.Poly {
	rest := c.poly(poly.Primitive(c.poly(poly.Rest(x, y))))
	// The pseudo-remainder is the remainder times the leading coefficient of y, once for each step of the division: so it may have the other sign.
	steps := len(x) - len(y) + 1
	if negativeLead(y) && steps%2 != 0 {
		return rest
	}
	return c.opposite(rest)
}

// opposite returns the negative of a polynomial.
func (c *calc) opposite(p api.Poly) api.Poly {
	return c.poly(poly.Scale(p, wide.Of(-1)))
}

// negativeLead reports whether a polynomial has a negative leading coefficient.
func negativeLead(p api.Poly) bool {
	return len(p) > 0 && p[len(p)-1].Neg
}
