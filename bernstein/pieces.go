package bernstein

import (
	"cmp"
	"slices"

	"skylantern/api"
	"skylantern/wide"
)

// whole returns the levelled Bernstein coefficients of the only piece of a polynomial for the depth 0, and their denominator.
func (c *calc) whole(p api.Poly) (l []api.Wide, den api.Wide) {
	return c.level(c.form(p, max(len(p)-1, 0)))
}

// halves returns the levelled Bernstein coefficients of both halves: by de Casteljau's algorithm, but with sums in place of means, so that all of them are 2^n times as great.
func (c *calc) halves(l []api.Wide) (left, right []api.Wide) {
	left, right = make([]api.Wide, len(l)), slices.Clone(l)
	for n := len(l) - 1; n >= 0; n-- {
		// The first and the last one of n + 1 sums are done, but for the doublings that the steps to come give the others.
		left[len(l)-1-n] = c.keep(wide.Shift(right[0], n))
		last := c.keep(wide.Shift(right[n], n))
		for j := range n {
			right[j] = c.keep(wide.Add(right[j], right[j+1]))
		}
		right[n] = last
	}
	return left, right
}

// pieces returns the levelled Bernstein coefficients of all pieces of a piece after some halvings.
func (c *calc) pieces(l []api.Wide, depth int) []api.Wide {
	if depth == 0 {
		return l
	}
	left, right := c.halves(l)
	return append(c.pieces(left, depth-1), c.pieces(right, depth-1)...)
}

// extremes returns the least and the greatest one of some integers, divided by a positive one.
func (c *calc) extremes(l []api.Wide, den api.Wide) (out [2]api.Ratio) {
	for i, a := range [2]api.Wide{slices.MinFunc(l, wide.Compare), slices.MaxFunc(l, wide.Compare)} {
		var e api.Errno
		out[i], e = wide.Ratio(a, den)
		c.Errno = cmp.Or(c.Errno, e)
	}
	return out
}

// shown reports whether a piece is shown to be at least 0 by some halvings.
func (c *calc) shown(l []api.Wide, depth int) bool {
	if !slices.ContainsFunc(l, negative) {
		return true
	}
	// The first and the last integer are values of the polynomial, so that no halving makes them greater.
	if depth == 0 || negative(l[0]) || negative(l[len(l)-1]) {
		return false
	}
	left, right := c.halves(l)
	return c.shown(left, depth-1) && c.shown(right, depth-1)
}

// negative reports whether an integer is below 0.
func negative(a api.Wide) bool { return wide.Sign(a) < 0 }
