package sign

import (
	"skylantern/api"
	"skylantern/poly"
	"skylantern/wide"
)

// calc makes calculations with polynomials. The first error is kept in it, so that a long calculation needs to ask for it only at its end; after an error the results have no meaning.
type calc struct{ api.Errno }

// keep keeps an error if it is the first one.
func (c *calc) keep(e api.Errno) {
	if c.Errno == api.OK {
		c.Errno = e
	}
}

// poly returns the polynomial that an operation gives, and keeps its error.
func (c *calc) poly(p api.Poly, e api.Errno) api.Poly {
	c.keep(e)
	return p
}

// ratio returns the ratio that an operation gives, and keeps its error.
func (c *calc) ratio(r api.Ratio, e api.Errno) api.Ratio {
	c.keep(e)
	return r
}

// wide returns the integer that an operation gives, and keeps its error.
func (c *calc) wide(a api.Wide, e api.Errno) api.Wide {
	c.keep(e)
	return a
}

// sign returns the sign of a polynomial at a ratio.
func (c *calc) sign(p api.Poly, at api.Ratio) int {
	sign, e := poly.SignAt(p, at)
	c.keep(e)
	return sign
}

// compare compares two ratios.
func (c *calc) compare(a, b api.Ratio) int {
	order, e := wide.CompareRatio(a, b)
	c.keep(e)
	return order
}

// lowest returns a ratio in lowest terms.
func (c *calc) lowest(r api.Ratio) api.Ratio { return c.ratio(wide.Ratio(r.Num, r.Den)) }

// middle returns the number halfway between two others, in lowest terms.
func (c *calc) middle(a, b api.Ratio) api.Ratio {
	sum := c.ratio(wide.AddRatio(a, b))
	return c.ratio(wide.MulRatio(sum, api.Ratio{Num: wide.Of(1), Den: wide.Of(2)}))
}

// finish returns the result of a calculation, or the error that was kept.
func finish[T any](c *calc, result T) (T, api.Errno) {
	if c.Errno != api.OK {
		var zero T
		return zero, c.Errno
	}
	return result, api.OK
}
