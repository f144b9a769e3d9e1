package poly

import (
	"slices"

	"skylantern/api"
	"skylantern/wide"
)

// calc makes calculations with wide integers. The first error is kept in it, so that a long calculation needs to ask for it only at its end; after an error the results have no meaning.
type calc struct{ api.Errno }

// keep returns the result of an operation, and keeps its error.
func (c *calc) keep(a api.Wide, e api.Errno) api.Wide {
	if c.Errno == api.OK {
		c.Errno = e
	}
	return a
}

// finish returns the result of a calculation, or the error that was kept.
func finish[T any](c *calc, result T) (T, api.Errno) {
	if c.Errno != api.OK {
		var zero T
		return zero, c.Errno
	}
	return result, api.OK
}

// add returns the sum of two integers.
func (c *calc) add(a, b api.Wide) api.Wide { return c.keep(wide.Add(a, b)) }

// sub returns the difference of two integers.
func (c *calc) sub(a, b api.Wide) api.Wide { return c.keep(wide.Sub(a, b)) }

// mul returns the product of two integers.
func (c *calc) mul(a, b api.Wide) api.Wide { return c.keep(wide.Mul(a, b)) }

// divide returns the quotient of two integers, and keeps ErrCheck if it is not an integer.
func (c *calc) divide(a, b api.Wide) api.Wide {
	q, rest, e := wide.Quo(a, b)
	if e == api.OK && wide.Sign(rest) != 0 {
		e = api.ErrCheck
	}
	return c.keep(q, e)
}

// power returns an integer to the power of a number, 1 for a number that is not positive.
func (c *calc) power(a api.Wide, n int) api.Wide {
	out := wide.Of(1)
	for range n {
		out = c.mul(out, a)
	}
	return out
}

// combine returns what a function makes of the coefficients of each power in two lists; what one of them lacks is 0.
func combine(p, q api.Poly, with func(a, b api.Wide) api.Wide) api.Poly {
	out := make(api.Poly, max(len(p), len(q)))
	for i := range out {
		var a, b api.Wide
		if i < len(p) {
			a = p[i]
		}
		if i < len(q) {
			b = q[i]
		}
		out[i] = with(a, b)
	}
	return out
}

// change returns what a function makes of each power and its coefficient.
func change(p api.Poly, with func(power int, a api.Wide) api.Wide) api.Poly {
	out := slices.Clone(p)
	for i, a := range out {
		out[i] = with(i, a)
	}
	return out
}
