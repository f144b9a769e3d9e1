package sturm_test

import (
	"math/big"
	"slices"

	"skylantern/api"
)

// What the functions return is held against calculations with rational coefficients, and numbers of roots against Descartes' rule of signs, which needs no chain.

// rats are rational coefficients, the lowest one first, without zeros at the end.
type rats []*big.Rat

// ratsOf returns the coefficients of a polynomial.
func ratsOf(p api.Poly) rats {
	out := make(rats, len(p))
	for i, a := range p {
		out[i] = new(big.Rat).SetInt(bigOf(a))
	}
	return out
}

// trimmed returns coefficients without zeros at the end.
func trimmed(l rats) rats {
	for len(l) > 0 && l[len(l)-1].Sign() == 0 {
		l = l[:len(l)-1]
	}
	return l
}

// divided returns the quotient and the remainder of the division by a polynomial that is not zero.
func divided(p, q rats) (quotient, rest rats) {
	rest = make(rats, len(p))
	for i, a := range p {
		rest[i] = new(big.Rat).Set(a)
	}
	quotient = make(rats, max(len(p)-len(q)+1, 0))
	for i := len(quotient) - 1; i >= 0; i-- {
		quotient[i] = new(big.Rat).Quo(rest[i+len(q)-1], q[len(q)-1])
		for j, b := range q {
			rest[i+j].Sub(rest[i+j], new(big.Rat).Mul(quotient[i], b))
		}
	}
	return quotient, trimmed(rest)
}

// derived returns the derivative.
func derived(p rats) rats {
	out := rats{}
	for i, a := range p {
		if i > 0 {
			out = append(out, new(big.Rat).Mul(a, big.NewRat(int64(i), 1)))
		}
	}
	return out
}

// times returns a polynomial times a ratio.
func times(p rats, by *big.Rat) rats {
	out := make(rats, len(p))
	for i, a := range p {
		out[i] = new(big.Rat).Mul(a, by)
	}
	return out
}

// primitive returns the primitive polynomial with integer coefficients that is a positive multiple.
func primitive(p rats) rats {
	common, content := big.NewInt(1), new(big.Int)
	for _, a := range p {
		// This is a multiple of the smallest common one, which is enough.
		if !new(big.Rat).Mul(a, new(big.Rat).SetInt(common)).IsInt() {
			common.Mul(common, a.Denom())
		}
	}
	whole := times(p, new(big.Rat).SetInt(common))
	for _, a := range whole {
		content.GCD(nil, nil, content, new(big.Int).Abs(a.Num()))
	}
	if content.Sign() == 0 {
		return nil
	}
	return times(whole, new(big.Rat).SetFrac(big.NewInt(1), content))
}

// squareFree returns the polynomial that has each root once, by Euclid's algorithm.
func squareFree(p rats) rats {
	x, y := primitive(p), primitive(derived(p))
	for len(y) > 0 {
		_, rest := divided(x, y)
		x, y = y, primitive(rest)
	}
	quotient, _ := divided(p, x)
	quotient = primitive(quotient)
	if quotient[len(quotient)-1].Sign() < 0 {
		quotient = times(quotient, big.NewRat(-1, 1))
	}
	return quotient
}

// chainOf returns the chain, as the chapter defines it.
func chainOf(p rats) []rats {
	out := []rats{squareFree(p)}
	if len(out[0]) > 1 {
		out = append(out, primitive(derived(out[0])))
	}
	for n := len(out); n > 1; n = len(out) {
		_, rest := divided(out[n-2], out[n-1])
		if len(rest) == 0 {
			break
		}
		out = append(out, primitive(times(rest, big.NewRat(-1, 1))))
	}
	return out
}

// polyOf returns integer coefficients as a polynomial.
func polyOf(l rats) api.Poly {
	out := make(api.Poly, len(l))
	for i, a := range l {
		out[i] = wideOf(a.Num())
	}
	return out
}

// unit is the integer coefficients of a square-free polynomial in u, which goes from 0 to 1 in an interval.
type unit []*big.Int

// unitOf returns a positive multiple of the polynomial p(a + (b - a) u).
func unitOf(p rats, a, b *big.Rat) unit {
	l, width := times(p, big.NewRat(1, 1)), new(big.Rat).Sub(b, a)
	for i := range l {
		for j := len(l) - 2; j >= i; j-- {
			l[j].Add(l[j], new(big.Rat).Mul(l[j+1], a))
		}
	}
	factor := big.NewRat(1, 1)
	for i := range l {
		l[i].Mul(l[i], factor)
		factor.Mul(factor, width)
	}
	out := make(unit, len(l))
	for i, n := range primitive(l) {
		out[i] = n.Num()
	}
	return out
}

// shifted returns the polynomial in u + 1.
func (q unit) shifted() unit {
	out := make(unit, len(q))
	for i, n := range q {
		out[i] = new(big.Int).Set(n)
	}
	for i := range out {
		for j := len(out) - 2; j >= i; j-- {
			out[j].Add(out[j], out[j+1])
		}
	}
	return out
}

// halves returns the polynomials of both halves of the interval.
func (q unit) halves() (first, second unit) {
	first = make(unit, len(q))
	for i, n := range q {
		first[i] = new(big.Int).Lsh(n, uint(len(q)-1-i))
	}
	return first, first.shifted()
}

// atMost returns an upper bound of the number of roots greater than 0 and less than 1, which is the number itself if it is 0 or 1: Descartes' rule for (1 + v)^d q(1 / (1 + v)).
func (q unit) atMost() int {
	reversed := slices.Clone(q)
	slices.Reverse(reversed)
	count, last := 0, 0
	for _, n := range reversed.shifted() {
		if n.Sign()*last < 0 {
			count++
		}
		if n.Sign() != 0 {
			last = n.Sign()
		}
	}
	return count
}

// rootAtOne returns 1 if 1 is a root, and 0 if it is not.
func (q unit) rootAtOne() int {
	sum := new(big.Int)
	for _, n := range q {
		sum.Add(sum, n)
	}
	return 1 - abs(sum.Sign())
}

// between returns the number of roots greater than 0 and less than 1.
func (q unit) between() int {
	if n := q.atMost(); n <= 1 {
		return n
	}
	first, second := q.halves()
	return first.between() + first.rootAtOne() + second.between()
}

// isolated returns the intervals of the roots that are greater than a and at most b, as the chapter defines them, where the interval from a to b has been made by some halvings.
func (q unit) isolated(a, b *big.Rat, made, halvings int) []api.Interval {
	roots := q.between() + q.rootAtOne()
	if roots == 0 {
		return nil
	}
	if roots == 1 && made >= halvings {
		return []api.Interval{{From: ratioOf(a), To: ratioOf(b)}}
	}
	middle := new(big.Rat).Add(a, b)
	middle.Mul(middle, big.NewRat(1, 2))
	first, second := q.halves()
	return append(first.isolated(a, middle, made+1, halvings), second.isolated(middle, b, made+1, halvings)...)
}

// rootsIn returns the number of roots of a square-free polynomial that are greater than a and at most b.
func rootsIn(p rats, a, b *big.Rat) int {
	if a.Cmp(b) >= 0 {
		return 0
	}
	q := unitOf(p, a, b)
	return q.between() + q.rootAtOne()
}

// abs returns the magnitude of a number.
func abs(n int) int { return max(n, -n) }
