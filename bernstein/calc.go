package bernstein

import (
	"cmp"
	"slices"

	"skylantern/api"
	"skylantern/wide"
)

// calc makes calculations with lists of wide integers. The first error is kept in it, so that a long calculation needs to ask for it only at its end; after an error the results have no meaning.
type calc struct{ api.Errno }

// keep returns the result of an operation, and keeps its error.
func (c *calc) keep(a api.Wide, e api.Errno) api.Wide {
	c.Errno = cmp.Or(c.Errno, e)
	return a
}

// finish returns the result of a calculation, or the error that was kept.
func finish[T any](c *calc, result T) (out T, e api.Errno) {
	if c.Errno == api.OK {
		out = result
	}
	return out, c.Errno
}

// form returns the form of a polynomial for a degree that is not less than its own one. A polynomial is the sum of all ci u^i 1^(n - i), and 1 is (1 - u) + u.
func (c *calc) form(p api.Poly, degree int) []api.Wide {
	l := make([]api.Wide, degree+1)
	copy(l, p)
	c.spread(l, wide.Add)
	return l
}

// poly returns the polynomial that a form stands for. Here 1 - u is replaced.
func (c *calc) poly(form []api.Wide) api.Poly {
	p := slices.Clone(form)
	c.spread(p, wide.Sub)
	for len(p) > 0 && wide.Sign(p[len(p)-1]) == 0 {
		p = p[:len(p)-1]
	}
	return p
}

// spread makes of the coefficients lj of the sum of all lj x^j y^(n - j) those of the same sum with y + x in place of y, or with y - x if with subtracts.
func (c *calc) spread(l []api.Wide, with func(a, b api.Wide) (api.Wide, api.Errno)) {
	for last := len(l) - 1; last > 0; last-- {
		for j := 1; j <= last; j++ {
			l[j] = c.keep(with(l[j], l[j-1]))
		}
	}
}

// level returns the Bernstein coefficients of a form, all of them times their common denominator, and this denominator. So levelled, they are integers that can be compared and halved by sums alone.
func (c *calc) level(form []api.Wide) (l []api.Wide, den api.Wide) {
	factors, common := levels(len(form) - 1)
	l = make([]api.Wide, len(form))
	for j, a := range form {
		l[j] = c.keep(wide.Mul(a, wide.Of(factors[j])))
	}
	return l, wide.Of(common)
}

// unlevel makes a form of levelled Bernstein coefficients.
func (c *calc) unlevel(l []api.Wide) []api.Wide {
	factors, _ := levels(len(l) - 1)
	for j, a := range l {
		q, _, e := wide.Quo(a, wide.Of(factors[j]))
		l[j] = c.keep(q, e)
	}
	return l
}

// levels returns, for the integers of forms of a degree, the factors that level them: the least common multiple of the numbers of ways to choose, divided by each of them. It returns this multiple, too.
func levels(degree int) (factors []int, common int) {
	factors, common = []int{1}, 1
	for j := range degree {
		factors = append(factors, factors[j]*(degree-j)/(j+1))
	}
	for _, ways := range factors {
		common *= ways / commonDivisor(common, ways)
	}
	for j, ways := range factors {
		factors[j] = common / ways
	}
	return factors, common
}

// commonDivisor returns the greatest common divisor of two positive numbers.
func commonDivisor(a, b int) int {
	for b != 0 {
		a, b = b, a%b
	}
	return a
}
