package poly

import (
	"slices"

	"skylantern/api"
	"skylantern/wide"
)

// Eval returns the value of a polynomial at a ratio, times the denominator to the power of the degree, or an error.
func Eval(p api.Poly, at api.Ratio) (api.Wide, api.Errno) {
	if e := checkValue(p, at); e != api.OK {
		return api.Wide{}, e
	}
	c := &calc{}
	return finish(c, c.value(p, at))
}

// Value returns the value of a polynomial at a ratio, or an error.
func Value(p api.Poly, at api.Ratio) (api.Ratio, api.Errno) {
	if e := checkValue(p, at); e != api.OK {
		return api.Ratio{}, e
	}
	c := &calc{}
	num, den := c.value(p, at), c.power(at.Den, degree(p))
	if c.Errno != api.OK {
		return api.Ratio{}, c.Errno
	}
	return wide.Ratio(num, den)
}

// SignAt returns the sign of a polynomial at a ratio, or an error.
func SignAt(p api.Poly, at api.Ratio) (int, api.Errno) {
	if e := checkValue(p, at); e != api.OK {
		return 0, e
	}
	c := &calc{}
	return finish(c, wide.Sign(c.value(p, at)))
}

// Compose returns the polynomial p((a + b u) / den) times den to the power of the degree, or an error.
func Compose(p api.Poly, a, b, den api.Wide) (api.Poly, api.Errno) {
	if !Valid(p) || !wide.Valid(a) || !wide.Valid(b) || !wide.Valid(den) {
		return nil, api.ErrArg
	}
	if wide.Sign(den) <= 0 {
		return nil, api.ErrRange
	}
	// a + b u counts as one bit more than its coefficients.
	if tooLarge(p, greatestBits(a, b, den)+1) {
		return nil, api.ErrFull
	}
	c := &calc{}
	return finish(c, trim(c.compose(p, api.Poly{a, b}, den)))
}

// checkValue returns the error of a polynomial whose value at a ratio is asked for.
func checkValue(p api.Poly, at api.Ratio) api.Errno {
	if !Valid(p) || !wide.ValidRatio(at) {
		return api.ErrArg
	}
	if tooLarge(p, greatestBits(at.Num, at.Den)) {
		return api.ErrFull
	}
	return api.OK
}

// tooLarge reports whether a value of a polynomial may be too large at a ratio of integers with some bits. The 8 bits leave room for the sum of all terms.
func tooLarge(p api.Poly, bits int) bool {
	return len(p) > 0 && greatestBits(p...)+degree(p)*bits+8 > wide.MaxBits
}

// value returns the value of a polynomial at a ratio, times the denominator to the power of the degree.
func (c *calc) value(p api.Poly, at api.Ratio) api.Wide {
	var sum api.Wide
	for _, a := range slices.Backward(c.level(p, at.Den)) {
		sum = c.add(c.mul(sum, at.Num), a)
	}
	return sum
}

// compose returns the value of a polynomial at a polynomial over den, times den to the power of the degree.
func (c *calc) compose(p, at api.Poly, den api.Wide) api.Poly {
	var sum api.Poly
	for _, a := range slices.Backward(c.level(p, den)) {
		sum = combine(c.product(sum, at), api.Poly{a}, c.add)
	}
	return sum
}

// level returns the coefficients, each one times as many factors den as its power is below the degree: so a ratio over den can be put in by its numerator alone.
func (c *calc) level(p api.Poly, den api.Wide) api.Poly {
	out := make(api.Poly, len(p))
	factor := wide.Of(1)
	for i, a := range slices.Backward(p) {
		out[i] = c.mul(a, factor)
		// One factor more than the degree says need not fit.
		if i > 0 {
			factor = c.mul(factor, den)
		}
	}
	return out
}
