package bernstein_test

import (
	"math/big"

	"skylantern/api"
)

// What the functions return is held against the definitions: sums of products of powers, and pieces that are made of the polynomial itself and not of other pieces.

// bigs are integer coefficients, the lowest one first.
type bigs []*big.Int

// zeros returns coefficients that are 0.
func zeros(n int) bigs {
	out := make(bigs, n)
	for i := range out {
		out[i] = new(big.Int)
	}
	return out
}

// bigsOf returns a list as big integers.
func bigsOf(l []api.Wide) bigs {
	out := make(bigs, len(l))
	for i, a := range l {
		out[i] = bigOf(a)
	}
	return out
}

// widesOf returns big integers as a list.
func widesOf(l bigs) []api.Wide {
	out := make([]api.Wide, len(l))
	for i, n := range l {
		out[i] = wideOf(n)
	}
	return out
}

// times returns the product of two polynomials.
func times(p, q bigs) bigs {
	out := zeros(len(p) + len(q) - 1)
	for i, a := range p {
		for j, b := range q {
			out[i+j].Add(out[i+j], new(big.Int).Mul(a, b))
		}
	}
	return out
}

// power returns a polynomial with two coefficients to the power of a number.
func power(a, b int64, n int) bigs {
	out := bigs{big.NewInt(1)}
	for range n {
		out = times(out, bigs{big.NewInt(a), big.NewInt(b)})
	}
	return out
}

// expanded returns the sum of all sj x^j y^(n - j) of two polynomials x and y with two coefficients, with as many coefficients as the form has.
func expanded(form bigs, x, y [2]int64) bigs {
	out, n := zeros(len(form)), len(form)-1
	for j, s := range form {
		for i, a := range times(power(x[0], x[1], j), power(y[0], y[1], n-j)) {
			out[i].Add(out[i], a.Mul(a, s))
		}
	}
	return out
}

// standsFor returns the polynomial that a form stands for, with as many coefficients as the form has.
func standsFor(form []api.Wide) bigs {
	return expanded(bigsOf(form), [2]int64{0, 1}, [2]int64{1, -1})
}

// formOf returns the form of a polynomial with one coefficient more than its degree says, by the formula of the chapter.
func formOf(p bigs) bigs {
	out, n := zeros(len(p)), int64(len(p)-1)
	for j, s := range out {
		for i, a := range p[:j+1] {
			ways := new(big.Int).Binomial(n-int64(i), int64(j-i))
			s.Add(s, ways.Mul(ways, a))
		}
	}
	return out
}

// padded returns the coefficients of a polynomial, with zeros up to a degree.
func padded(p api.Poly, degree int) bigs {
	return append(bigsOf(p), zeros(degree+1-len(p))...)
}

// pieceOf returns a piece of a polynomial for a depth, by its index from the left: the form of 2^(k n) p((index + v) / 2^k).
func pieceOf(p api.Poly, depth, index int) bigs {
	n := max(len(p)-1, 0)
	out := zeros(n + 1)
	for i, a := range padded(p, n) {
		for j, b := range power(int64(index), 1, i) {
			b.Mul(b, a)
			out[j].Add(out[j], b.Lsh(b, uint(depth*(n-i))))
		}
	}
	return formOf(out)
}

// extremesOf returns the least and the greatest Bernstein coefficient of a form.
func extremesOf(form bigs) (least, greatest *big.Rat) {
	n := int64(len(form) - 1)
	for j, s := range form {
		r := new(big.Rat).SetFrac(s, new(big.Int).Binomial(n, int64(j)))
		if j == 0 || r.Cmp(least) < 0 {
			least = r
		}
		if j == 0 || r.Cmp(greatest) > 0 {
			greatest = r
		}
	}
	return least, greatest
}

// enclosureOf returns the least and the greatest Bernstein coefficient of all pieces, divided by 2^(k n).
func enclosureOf(p api.Poly, depth int) (least, greatest *big.Rat) {
	for index := range 1 << depth {
		low, high := extremesOf(pieceOf(p, depth, index))
		if index == 0 || low.Cmp(least) < 0 {
			least = low
		}
		if index == 0 || high.Cmp(greatest) > 0 {
			greatest = high
		}
	}
	scale := new(big.Int).Lsh(big.NewInt(1), uint(depth*max(len(p)-1, 0)))
	by := new(big.Rat).SetFrac(big.NewInt(1), scale)
	return least.Mul(least, by), greatest.Mul(greatest, by)
}

// isShown reports whether a polynomial is shown to be at least 0 by a depth, beginning with a piece for the depth at.
func isShown(p api.Poly, depth, at, index int) bool {
	all := true
	for _, s := range pieceOf(p, at, index) {
		all = all && s.Sign() >= 0
	}
	return all || at < depth && isShown(p, depth, at+1, 2*index) && isShown(p, depth, at+1, 2*index+1)
}

// valueAt returns the value of a polynomial at a ratio.
func valueAt(p api.Poly, x *big.Rat) *big.Rat {
	sum := new(big.Rat)
	for i := len(p) - 1; i >= 0; i-- {
		sum.Add(sum.Mul(sum, x), new(big.Rat).SetInt(bigOf(p[i])))
	}
	return sum
}
