package poly

import (
	"slices"

	"skylantern/api"
	"skylantern/wide"
)

// Content returns the greatest common divisor of the coefficients (0 for the zero polynomial), or an error.
func Content(p api.Poly) (api.Wide, api.Errno) {
	if !Valid(p) {
		return api.Wide{}, api.ErrArg
	}
	c := &calc{}
	return finish(c, c.content(p))
}

// Primitive returns a polynomial divided by its content, or an error.
func Primitive(p api.Poly) (api.Poly, api.Errno) {
	if !Valid(p) {
		return nil, api.ErrArg
	}
	c := &calc{}
	return finish(c, c.primitive(p))
}

// Rest returns the pseudo-remainder of two polynomials, or an error.
func Rest(p, q api.Poly) (api.Poly, api.Errno) {
	if e := checkDivision(p, q); e != api.OK {
		return nil, e
	}
	c := &calc{}
	return finish(c, c.rest(p, q))
}

// Divide returns the quotient of two polynomials that divides exactly, or an error.
func Divide(p, q api.Poly) (api.Poly, api.Errno) {
	if e := checkDivision(p, q); e != api.OK {
		return nil, e
	}
	c := &calc{}
	return finish(c, c.quotient(p, q))
}

// GCD returns the greatest common divisor of two polynomials, primitive and with a positive last coefficient, or an error.
func GCD(p, q api.Poly) (api.Poly, api.Errno) {
	if !Valid(p) || !Valid(q) {
		return nil, api.ErrArg
	}
	side := max(degree(p), degree(q)) + 3
	bits := max(greatestBits(p...), greatestBits(q...)) + 8
	if len(p) > 0 && len(q) > 0 && side*side*bits > wide.MaxBits {
		return nil, api.ErrFull
	}
	c := &calc{}
	return finish(c, c.common(p, q))
}

// checkDivision returns the error of two polynomials of which the first one is to be divided by the second one.
func checkDivision(p, q api.Poly) api.Errno {
	if !Valid(p) || !Valid(q) {
		return api.ErrArg
	}
	if len(q) == 0 {
		return api.ErrRange
	}
	// Each step makes the rest longer by at most the bits of q and one more.
	steps := degree(p) - degree(q) + 1
	if steps > 0 && greatestBits(p...)+steps*(greatestBits(q...)+1) > wide.MaxBits {
		return api.ErrFull
	}
	return api.OK
}

// content returns the greatest common divisor of the coefficients.
func (c *calc) content(p api.Poly) api.Wide {
	var common api.Wide
	for _, a := range p {
		common = c.keep(wide.GCD(common, a))
	}
	return common
}

// primitive returns a polynomial divided by its content.
func (c *calc) primitive(p api.Poly) api.Poly {
	content := c.content(p)
	return change(p, func(_ int, a api.Wide) api.Wide { return c.divide(a, content) })
}

// rest returns the pseudo-remainder of p by q, which is not the zero polynomial.
func (c *calc) rest(p, q api.Poly) api.Poly {
	rest, last := slices.Clone(p), degree(q)
	for len(rest) > last {
		top := rest[len(rest)-1]
		rest = rest[:len(rest)-1]
		for i, a := range rest {
			rest[i] = c.mul(a, q[last])
		}
		c.subtract(rest[len(rest)-last:], q[:last], top)
	}
	return trim(rest)
}

// quotient returns the polynomial whose product with q, which is not the zero polynomial, is p. If there is none, ErrCheck is kept.
func (c *calc) quotient(p, q api.Poly) api.Poly {
	rest, last := slices.Clone(p), degree(q)
	out := make(api.Poly, max(len(p)-last, 0))
	for len(rest) > last && c.Errno == api.OK {
		top := c.divide(rest[len(rest)-1], q[last])
		rest = rest[:len(rest)-1]
		c.subtract(rest[len(rest)-last:], q[:last], top)
		out[len(rest)-last] = top
	}
	if len(trim(rest)) > 0 {
		c.keep(api.Wide{}, api.ErrCheck)
	}
	return out
}

// subtract subtracts the product of coefficients and an integer from a list that is as long.
func (c *calc) subtract(from, p api.Poly, by api.Wide) {
	for i, a := range p {
		from[i] = c.sub(from[i], c.mul(a, by))
	}
}

// common returns the greatest common divisor of two polynomials, by Euclid's algorithm. Rests without their contents are not greater than the minors of the coefficients, for which the bits that GCD asks for are enough.
func (c *calc) common(p, q api.Poly) api.Poly {
	p, q = c.primitive(p), c.primitive(q)
	if len(p) < len(q) {
		p, q = q, p
	}
	for len(q) > 1 {
		p, q = q, c.primitive(c.rest(p, q))
	}
	if len(q) == 1 {
		// Both divide a constant then, so they have no common root.
		p = q
	}
	if len(p) > 0 && wide.Sign(p[len(p)-1]) < 0 {
		return combine(nil, p, c.sub)
	}
	return p
}
