package sign

import (
	"skylantern/api"
	"skylantern/poly"
	"skylantern/sturm"
	"skylantern/wide"
)

// Floor returns the greatest integer that is at most the smallest value of a polynomial from 0 to 1, or an error.
func Floor(p api.Poly) (api.Wide, api.Errno) {
	if !poly.Valid(p) {
		return api.Wide{}, api.ErrArg
	}
	// The polynomial minus an integer that is looked at has at most 8 bits more.
	if !fitsWith(p, 8) {
		return api.Wide{}, api.ErrFull
	}
	c := &calc{}
	return finish(c, c.floor(p))
}

// floor returns the floor of the smallest value of a polynomial from 0 to 1.
func (c *calc) floor(p api.Poly) api.Wide {
	zero, one := c.ratio(wide.RatioOf(0, 1)), c.ratio(wide.RatioOf(1, 1))
	low, high := c.bounds(c.shifted(p, zero, one))
	high = c.near(p, zero, one, high)
	return c.greatest(low, high, func(m api.Wide) bool {
		s := survey(c.minus(p, m), zero, one)
		negative := s.negative()
		c.keep(s.Errno)
		return !negative
	})
}

// bounds returns integers between which the smallest value from 0 to 1 is, from the shifted coefficients: it is not less than the smallest one of these, divided by the numbers of ways to choose, and not greater than the values at both ends.
func (c *calc) bounds(l []api.Wide) (low, high api.Wide) {
	if len(l) == 0 {
		return low, high
	}
	low, high = l[0], least(l[0], l[len(l)-1])
	ways := waysToChoose()[len(l)-1]
	for i, a := range l {
		q, _, e := wide.Quo(a, wide.Of(ways[i]))
		low = least(low, c.wide(q, e))
	}
	return low, high
}

// near returns the floor of a value that is mostly hardly greater than the smallest one from one number to another: an integer that is given, or the smallest value near the roots of the derivative.
func (c *calc) near(p api.Poly, from, to api.Ratio, high api.Wide) api.Wide {
	bits, e := poly.Bits(p)
	c.keep(e)
	// The values differ by about the square of the distance from such a root. Without intervals, perhaps since two roots cannot be told apart, the integer that is given is good enough.
	l, _ := sturm.Isolate(c.poly(poly.Derive(p)), from, to, min(bits/2+10, sturm.MaxHalvings))
	for _, i := range l {
		value := c.ratio(poly.Value(p, i.To))
		high = least(high, c.wide(wide.Floor(value)))
	}
	return high
}

// greatest returns the greatest integer from low to high for which a function reports true, as it does for low and for no integer above one for which it does not. It is thought to be near high.
func (c *calc) greatest(low, high api.Wide, holds func(m api.Wide) bool) api.Wide {
	one, step, m := wide.Of(1), wide.Of(0), high
	for c.Errno == api.OK && wide.Compare(low, m) < 0 && !holds(m) {
		high = c.wide(wide.Sub(m, one))
		m = c.wide(wide.Sub(high, step))
		step = c.wide(wide.Add(c.wide(wide.Add(step, step)), one))
	}
	if wide.Compare(low, m) < 0 {
		low = m
	}
	for c.Errno == api.OK && wide.Compare(low, high) < 0 {
		sum := c.wide(wide.Add(c.wide(wide.Add(low, high)), one))
		middle := c.wide(wide.Shift(sum, -1))
		if holds(middle) {
			low = middle
		} else {
			high = c.wide(wide.Sub(middle, one))
		}
	}
	return low
}

// minus returns a polynomial minus an integer.
func (c *calc) minus(p api.Poly, m api.Wide) api.Poly {
	if wide.Sign(m) == 0 {
		return p
	}
	return c.poly(poly.Sub(p, api.Poly{m}))
}

// least returns the smaller one of two integers.
func least(a, b api.Wide) api.Wide {
	if wide.Compare(a, b) <= 0 {
		return a
	}
	return b
}
