package sign_test

import (
	"math/big"
	"slices"

	"skylantern/api"
)

// What the functions return is held against calculations with rational coefficients, and numbers of roots against Descartes' rule of signs, which needs no chain.

// rats are rational coefficients, the lowest one first, without zeros at the end.
type rats []*big.Rat

// ratsOf returns the coefficients of a polynomial.
func ratsOf(p api.Poly) rats {
	out := make(rats, len(p))
	for i, a := range p {
		out[i] = new(big.Rat).SetInt(bigOf(a))
	}
	return out
}

// trimmed returns coefficients without zeros at the end.
func trimmed(l rats) rats {
	for len(l) > 0 && l[len(l)-1].Sign() == 0 {
		l = l[:len(l)-1]
	}
	return l
}

// divided returns the quotient and the remainder of the division by a polynomial that is not zero.
func divided(p, q rats) (quotient, rest rats) {
	rest = make(rats, len(p))
	for i, a := range p {
		rest[i] = new(big.Rat).Set(a)
	}
	quotient = make(rats, max(len(p)-len(q)+1, 0))
	for i := len(quotient) - 1; i >= 0; i-- {
		quotient[i] = new(big.Rat).Quo(rest[i+len(q)-1], q[len(q)-1])
		for j, b := range q {
			rest[i+j].Sub(rest[i+j], new(big.Rat).Mul(quotient[i], b))
		}
	}
	return quotient, trimmed(rest)
}

// derived returns the derivative.
func derived(p rats) rats {
	out := rats{}
	for i, a := range p {
		if i > 0 {
			out = append(out, new(big.Rat).Mul(a, big.NewRat(int64(i), 1)))
		}
	}
	return out
}

// times returns a polynomial times a ratio.
func times(p rats, by *big.Rat) rats {
	out := make(rats, len(p))
	for i, a := range p {
		out[i] = new(big.Rat).Mul(a, by)
	}
	return out
}

// primitive returns the primitive polynomial with integer coefficients that is a positive multiple.
func primitive(p rats) rats {
	common, content := big.NewInt(1), new(big.Int)
	for _, a := range p {
		// This is a multiple of the smallest common one, which is enough.
		if !new(big.Rat).Mul(a, new(big.Rat).SetInt(common)).IsInt() {
			common.Mul(common, a.Denom())
		}
	}
	whole := times(p, new(big.Rat).SetInt(common))
	for _, a := range whole {
		content.GCD(nil, nil, content, new(big.Int).Abs(a.Num()))
	}
	if content.Sign() == 0 {
		return nil
	}
	return times(whole, new(big.Rat).SetFrac(big.NewInt(1), content))
}

// squareFree returns the polynomial that has each root once, by Euclid's algorithm.
func squareFree(p rats) rats {
	x, y := primitive(p), primitive(derived(p))
	for len(y) > 0 {
		_, rest := divided(x, y)
		x, y = y, primitive(rest)
	}
	quotient, _ := divided(p, x)
	quotient = primitive(quotient)
	if quotient[len(quotient)-1].Sign() < 0 {
		quotient = times(quotient, big.NewRat(-1, 1))
	}
	return quotient
}

// polyOf returns integer coefficients as a polynomial.
func polyOf(l rats) api.Poly {
	out := make(api.Poly, len(l))
	for i, a := range l {
		out[i] = wideOf(a.Num())
	}
	return out
}

// unit is the integer coefficients of a square-free polynomial in u, which goes from 0 to 1 in an interval.
type unit []*big.Int

// unitOf returns a positive multiple of the polynomial p(a + (b - a) u).
func unitOf(p rats, a, b *big.Rat) unit {
	l, width := times(p, big.NewRat(1, 1)), new(big.Rat).Sub(b, a)
	for i := range l {
		for j := len(l) - 2; j >= i; j-- {
			l[j].Add(l[j], new(big.Rat).Mul(l[j+1], a))
		}
	}
	factor := big.NewRat(1, 1)
	for i := range l {
		l[i].Mul(l[i], factor)
		factor.Mul(factor, width)
	}
	out := make(unit, len(l))
	for i, n := range primitive(l) {
		out[i] = n.Num()
	}
	return out
}

// shifted returns the polynomial in u + 1.
func (q unit) shifted() unit {
	out := make(unit, len(q))
	for i, n := range q {
		out[i] = new(big.Int).Set(n)
	}
	for i := range out {
		for j := len(out) - 2; j >= i; j-- {
			out[j].Add(out[j], out[j+1])
		}
	}
	return out
}

// halves returns the polynomials of both halves of the interval.
func (q unit) halves() (first, second unit) {
	first = make(unit, len(q))
	for i, n := range q {
		first[i] = new(big.Int).Lsh(n, uint(len(q)-1-i))
	}
	return first, first.shifted()
}

// atMost returns an upper bound of the number of roots greater than 0 and less than 1, which is the number itself if it is 0 or 1: Descartes' rule for (1 + v)^d q(1 / (1 + v)).
func (q unit) atMost() int {
	reversed := slices.Clone(q)
	slices.Reverse(reversed)
	count, last := 0, 0
	for _, n := range reversed.shifted() {
		if n.Sign()*last < 0 {
			count++
		}
		if n.Sign() != 0 {
			last = n.Sign()
		}
	}
	return count
}

// rootAtOne returns 1 if 1 is a root, and 0 if it is not.
func (q unit) rootAtOne() int {
	sum := new(big.Int)
	for _, n := range q {
		sum.Add(sum, n)
	}
	return 1 - sum.Sign()*sum.Sign()
}

// between returns the number of roots greater than 0 and less than 1.
func (q unit) between() int {
	if n := q.atMost(); n <= 1 {
		return n
	}
	first, second := q.halves()
	return first.between() + first.rootAtOne() + second.between()
}

// common returns the greatest common divisor, as a primitive polynomial.
func common(p, q rats) rats {
	x, y := primitive(p), primitive(q)
	for len(y) > 0 {
		_, rest := divided(x, y)
		x, y = y, primitive(rest)
	}
	return x
}

// oddPart returns the odd part of a polynomial that is not the zero polynomial: roots that are at least k-fold are those that the polynomial and its first k - 1 derivatives have in common.
func oddPart(p rats) rats {
	out := rats{big.NewRat(1, 1)}
	all, derivative := primitive(p), derived(p)
	for len(all) > 1 {
		once := squareFree(all)
		all, derivative = common(all, derivative), derived(derivative)
		twice := squareFree(all)
		all, derivative = common(all, derivative), derived(derivative)
		quotient, _ := divided(once, twice)
		out = multiplied(out, quotient)
	}
	out = primitive(out)
	if out[len(out)-1].Sign() < 0 {
		out = times(out, big.NewRat(-1, 1))
	}
	return out
}

// multiplied returns the product of two polynomials that are not zero.
func multiplied(p, q rats) rats {
	out := make(rats, len(p)+len(q)-1)
	for i := range out {
		out[i] = new(big.Rat)
	}
	for i, a := range p {
		for j, b := range q {
			out[i+j].Add(out[i+j], new(big.Rat).Mul(a, b))
		}
	}
	return out
}

// valueAt returns the value of a polynomial.
func valueAt(p rats, x *big.Rat) *big.Rat {
	sum := new(big.Rat)
	for _, a := range slices.Backward(p) {
		sum.Add(sum.Mul(sum, x), a)
	}
	return sum
}

// signHalfway returns the sign of the value at 1/2.
func (q unit) signHalfway() int {
	first, _ := q.halves()
	sum := new(big.Int)
	for _, n := range first {
		sum.Add(sum, n)
	}
	return sum.Sign()
}

// negative reports whether a polynomial with this odd part and a leading coefficient with a sign is negative somewhere from 0 to 1: it changes its sign in between, or it has the wrong one halfway.
func (q unit) negative(lead int) bool { return q.between() > 0 || q.signHalfway()*lead < 0 }

// oddUnitOf returns the odd part of a polynomial that is not zero, from a to a greater b, and the sign of the leading coefficient.
func oddUnitOf(p rats, a, b *big.Rat) (q unit, lead int) {
	return unitOf(oddPart(p), a, b), p[len(p)-1].Sign()
}

// isNegative reports whether a polynomial is negative somewhere from a to b.
func isNegative(p api.Poly, from, to api.Ratio) bool {
	l, a, b := ratsOf(p), ratOf(from), ratOf(to)
	if len(l) == 0 || a.Cmp(b) == 0 {
		return valueAt(l, a).Sign() < 0
	}
	q, lead := oddUnitOf(l, a, b)
	return q.negative(lead)
}

// firstOf returns the first interval of a polynomial that is negative somewhere from a to b.
func firstOf(p api.Poly, from, to api.Ratio, halvings int) api.Interval {
	a, b := ratOf(from), ratOf(to)
	if a.Cmp(b) == 0 {
		return api.Interval{From: ratioOf(a), To: ratioOf(b)}
	}
	q, lead := oddUnitOf(ratsOf(p), a, b)
	for range halvings {
		middle := new(big.Rat).Add(a, b)
		middle.Mul(middle, big.NewRat(1, 2))
		if first, second := q.halves(); first.negative(lead) {
			q, b = first, middle
		} else {
			q, a = second, middle
		}
	}
	return api.Interval{From: ratioOf(a), To: ratioOf(b)}
}

// shiftedAtLeastZero reports whether all shifted coefficients are at least 0. The coefficients of p(a + (b - a) u) are found by the binomial theorem.
func shiftedAtLeastZero(p rats, a, b *big.Rat) bool {
	d, width := len(p)-1, new(big.Rat).Sub(b, a)
	for j := range p {
		sum := new(big.Rat)
		for i := range j + 1 {
			// The coefficient of u^i, times the ways to choose.
			c := new(big.Rat)
			for k := i; k <= d; k++ {
				term := new(big.Rat).SetInt(new(big.Int).Binomial(int64(k), int64(i)))
				c.Add(c, term.Mul(term, new(big.Rat).Mul(p[k], ratPower(a, k-i))))
			}
			c.Mul(c, ratPower(width, i))
			sum.Add(sum, c.Mul(c, new(big.Rat).SetInt(new(big.Int).Binomial(int64(d-i), int64(j-i)))))
		}
		if sum.Sign() < 0 {
			return false
		}
	}
	return true
}

// ratPower returns a ratio to the power of a number.
func ratPower(x *big.Rat, n int) *big.Rat {
	e := big.NewInt(int64(n))
	return new(big.Rat).SetFrac(new(big.Int).Exp(x.Num(), e, nil), new(big.Int).Exp(x.Denom(), e, nil))
}

// positiveAfter reports whether a polynomial is positive immediately after a number, by its derivatives.
func positiveAfter(p rats, x *big.Rat) bool {
	for len(p) > 0 {
		if s := valueAt(p, x).Sign(); s != 0 {
			return s > 0
		}
		p = derived(p)
	}
	return false
}

// isProof reports whether a list of parts, which are valid and fit, is a proof, as the chapter defines it.
func isProof(p api.Poly, a, b api.Ratio, l []api.SignPart) bool {
	if len(l) < 1 || len(l) > 200 {
		return false
	}
	rational, at := ratsOf(p), ratOf(a)
	for _, part := range l {
		from, to := ratOf(part.From), ratOf(part.To)
		if from.Cmp(at) != 0 || from.Cmp(to) > 0 || !isEvidence(rational, part.Kind, from, to) {
			return false
		}
		at = to
	}
	return at.Cmp(ratOf(b)) == 0
}

// isEvidence reports whether a part holds by its kind.
func isEvidence(p rats, kind api.SignKind, from, to *big.Rat) bool {
	switch {
	case kind == 1:
		return shiftedAtLeastZero(p, from, to)
	case kind != 2:
		return false
	case len(p) == 0 || from.Cmp(to) == 0:
		return valueAt(p, from).Sign() >= 0
	}
	return unitOf(oddPart(p), from, to).between() == 0 && positiveAfter(p, from)
}
