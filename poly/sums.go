package poly

import (
	"skylantern/api"
	"skylantern/wide"
)

// Add returns the sum of two polynomials, or an error.
func Add(p, q api.Poly) (api.Poly, api.Errno) {
	c := &calc{}
	return c.combined(p, q, c.add)
}

// Sub returns the difference of two polynomials, or an error.
func Sub(p, q api.Poly) (api.Poly, api.Errno) {
	c := &calc{}
	return c.combined(p, q, c.sub)
}

// combined returns the polynomial that a function makes of the coefficients of two polynomials, or an error.
func (c *calc) combined(p, q api.Poly, with func(a, b api.Wide) api.Wide) (api.Poly, api.Errno) {
	if !Valid(p) || !Valid(q) {
		return nil, api.ErrArg
	}
	return finish(c, trim(combine(p, q, with)))
}

// Mul returns the product of two polynomials, or an error.
func Mul(p, q api.Poly) (api.Poly, api.Errno) {
	if !Valid(p) || !Valid(q) {
		return nil, api.ErrArg
	}
	if len(p) == 0 || len(q) == 0 {
		return nil, api.OK
	}
	// The 5 bits are for the sums of at most MaxDegree + 1 products.
	if degree(p)+degree(q) > MaxDegree || greatestBits(p...)+greatestBits(q...)+5 > wide.MaxBits {
		return nil, api.ErrFull
	}
	c := &calc{}
	return finish(c, c.product(p, q))
}

// product returns the product of two lists of coefficients.
func (c *calc) product(p, q api.Poly) api.Poly {
	if len(p) == 0 || len(q) == 0 {
		return nil
	}
	out := make(api.Poly, len(p)+len(q)-1)
	for i, a := range p {
		for j, b := range q {
			out[i+j] = c.add(out[i+j], c.mul(a, b))
		}
	}
	return out
}

// Scale returns a polynomial times an integer, or an error.
func Scale(p api.Poly, by api.Wide) (api.Poly, api.Errno) {
	if !Valid(p) || !wide.Valid(by) {
		return nil, api.ErrArg
	}
	c := &calc{}
	return finish(c, trim(c.product(p, api.Poly{by})))
}

// Derive returns the derivative of a polynomial, or an error.
func Derive(p api.Poly) (api.Poly, api.Errno) {
	if !Valid(p) {
		return nil, api.ErrArg
	}
	if len(p) == 0 {
		return nil, api.OK
	}
	c := &calc{}
	return finish(c, change(p[1:], func(power int, a api.Wide) api.Wide {
		return c.mul(a, wide.Of(power+1))
	}))
}
