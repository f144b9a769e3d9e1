package sign

import (
	"skylantern/api"
	"skylantern/poly"
	"skylantern/wide"
)

// shifted returns the shifted coefficients of a polynomial from one number to another, none for the zero polynomial.
func (c *calc) shifted(p api.Poly, from, to api.Ratio) []api.Wide {
	start := c.wide(wide.Mul(from.Num, to.Den))
	length := c.wide(wide.Sub(c.wide(wide.Mul(to.Num, from.Den)), start))
	den := c.wide(wide.Mul(from.Den, to.Den))
	l := c.poly(poly.Compose(p, start, length, den))
	// The composed polynomial may have a smaller degree; what it lacks is 0.
	out, ways := make([]api.Wide, len(p)), waysToChoose()
	for i, a := range l {
		for j := i; j < len(p); j++ {
			term := c.wide(wide.Mul(a, wide.Of(ways[len(p)-1-i][j-i])))
			out[j] = c.wide(wide.Add(out[j], term))
		}
	}
	return out
}

// waysToChoose returns the numbers of ways to choose elements: row n has those for 0, 1 and more of n elements.
func waysToChoose() [poly.MaxDegree + 1][poly.MaxDegree + 1]int {
	var rows [poly.MaxDegree + 1][poly.MaxDegree + 1]int
	for n := range rows {
		rows[n][0] = 1
		for k := 1; k <= n; k++ {
			rows[n][k] = rows[n-1][k-1] + rows[n-1][k]
		}
	}
	return rows
}

// noneNegative reports whether all integers of a list are at least 0.
func noneNegative(l []api.Wide) bool {
	for _, a := range l {
		if wide.Sign(a) < 0 {
			return false
		}
	}
	return true
}
