package sign_test

import (
	"math/big"
	"math/rand"
	"slices"
	"strings"
	"testing"

	"skylantern/api"
	"skylantern/poly"
	"skylantern/sign"
	"skylantern/sturm"
	"skylantern/wide"
)

// bigOf returns a wide integer as a big one.
func bigOf(w api.Wide) *big.Int {
	n := new(big.Int).SetBytes([]byte(w.Mag))
	if w.Neg {
		n.Neg(n)
	}
	return n
}

// wideOf returns a big integer as a wide one.
func wideOf(n *big.Int) api.Wide {
	return api.Wide{Neg: n.Sign() < 0, Mag: string(n.Bytes())}
}

// power returns 2 to the power of a number, plus a number.
func power(bits, plus int) api.Wide {
	n := new(big.Int).Lsh(big.NewInt(1), uint(bits))
	return wideOf(n.Add(n, big.NewInt(int64(plus))))
}

// opposite returns the negative of an integer.
func opposite(w api.Wide) api.Wide { return wideOf(new(big.Int).Neg(bigOf(w))) }

// ints returns the list of some ints, as it is.
func ints(l ...int) api.Poly {
	out := make(api.Poly, len(l))
	for i, n := range l {
		out[i] = wide.Of(n)
	}
	return out
}

// ratio returns a ratio of ints, as it is.
func ratio(num, den int) api.Ratio { return api.Ratio{Num: wide.Of(num), Den: wide.Of(den)} }

// between returns an interval between ratios of ints.
func between(a, b, c, d int) api.Interval {
	return api.Interval{From: ratio(a, b), To: ratio(c, d)}
}

// ratOf returns a valid ratio as a big one.
func ratOf(r api.Ratio) *big.Rat { return new(big.Rat).SetFrac(bigOf(r.Num), bigOf(r.Den)) }

// ratioOf returns a big ratio as one in lowest terms.
func ratioOf(r *big.Rat) api.Ratio { return api.Ratio{Num: wideOf(r.Num()), Den: wideOf(r.Denom())} }

// product returns the product of some polynomials.
func product(all ...api.Poly) api.Poly {
	out := ints(1)
	for _, p := range all {
		next, e := poly.Mul(out, p)
		if e != api.OK {
			panic("a product in a test is too large")
		}
		out = next
	}
	return out
}

// minus returns a polynomial minus an integer.
func minus(p api.Poly, m api.Wide) api.Poly {
	out := ratsOf(p)
	if len(out) == 0 {
		out = rats{new(big.Rat)}
	}
	out[0].Sub(out[0], new(big.Rat).SetInt(bigOf(m)))
	return polyOf(trimmed(out))
}

// linear returns the polynomial with a single root, num divided by den.
func linear(num, den int) api.Poly { return ints(-num, den) }

// source returns numbers that look random and are the same in every run.
func source() *rand.Rand { return rand.New(rand.NewSource(1)) }

// randomWide returns an integer of at most some bits, with any sign.
func randomWide(r *rand.Rand, bits int) api.Wide {
	n := new(big.Int).Rand(r, new(big.Int).Lsh(big.NewInt(1), uint(bits)))
	if r.Intn(2) == 0 {
		n.Neg(n)
	}
	return wideOf(n)
}

// randomPoly returns a polynomial of a degree whose coefficients have at most some bits; of so many of them as sparse says, all but one are 0.
func randomPoly(r *rand.Rand, degree, bits, sparse int) api.Poly {
	out := make(api.Poly, degree+1)
	for i := range out {
		if r.Intn(sparse) == 0 || i == degree {
			out[i] = randomWide(r, bits)
		}
	}
	if wide.Sign(out[degree]) == 0 {
		out[degree] = wide.Of(1 - 2*r.Intn(2))
	}
	return out
}

// randomProduct returns a product of some small factors, many of them equal, with roots at small ratios, at other real numbers and not real.
func randomProduct(r *rand.Rand, factors int) api.Poly {
	all := []api.Poly{linear(0, 1), linear(1, 1), linear(-1, 1), linear(1, 2), linear(3, 4), linear(1, 3), linear(3, 2), linear(5, -3), ints(-2, 0, 1), ints(1, 0, 1), ints(-1, 3, 5), ints(3, -1, 1), ints(-3, 0, 0, 20), ints(6), ints(-1)}
	l := make([]api.Poly, factors)
	for i := range l {
		l[i] = all[r.Intn(len(all))]
		if i > 0 && r.Intn(2) == 0 {
			l[i] = l[i-1]
		}
	}
	return product(l...)
}

// samples returns polynomials of many kinds, all of which fit.
func samples() []api.Poly {
	all := []api.Poly{nil, ints(1), ints(-1), ints(6), ints(-15), ints(0, 1), ints(0, -4), ints(1, 1), ints(3, -2), ints(-1, 0, 1), ints(1, -2, 1), ints(-1, 2, -1), ints(1, -4, 4), ints(1, -6, 9), ints(-1, 6, -9), ints(0, 0, 0, 5), ints(1, -3, 0, 2), ints(-2, 0, 1), ints(2, 0, -1), ints(0, 0, -1, 1), ints(4, 0, -4, 0, 1), ints(1, 0, -10, 0, 1)}
	r := source()
	for degree := range 13 {
		all = append(all, randomPoly(r, degree, 1+r.Intn(30), 1), randomPoly(r, degree, 1+r.Intn(12), 3))
	}
	for factors := range 9 {
		p, q := randomProduct(r, factors), randomProduct(r, factors/2)
		all = append(all, p, product(q, q), product(q, q, ints(-1)))
	}
	return slices.DeleteFunc(all, func(p api.Poly) bool { return !sign.Fits(p) })
}

// most returns the most bits of a polynomial of a degree that fits.
func most(degree int) int { return wide.MaxBits/((degree+3)*(degree+3)) - 2*degree - 32 }

// invalid returns polynomials that are not valid.
func invalid() []api.Poly {
	return []api.Poly{
		ints(0),
		ints(1, 0),
		slices.Repeat(ints(1), poly.MaxDegree+2),
		append(make(api.Poly, 1<<20), wide.Of(1)),
		{{Neg: true}},
		{{Mag: "\x00\x01"}, wide.Of(1)},
		{wide.Of(1), {Mag: strings.Repeat("\x01", wide.MaxBits/8+1)}},
	}
}

// invalidRatios returns ratios that are not valid.
func invalidRatios() []api.Ratio {
	all := []api.Ratio{{}, ratio(1, 0), ratio(0, 0), ratio(1, -1)}
	for _, w := range []api.Wide{{Neg: true}, {Mag: "\x00"}, {Mag: strings.Repeat("\x01", wide.MaxBits/8+1)}} {
		all = append(all, api.Ratio{Num: w, Den: wide.Of(1)}, api.Ratio{Num: wide.Of(1), Den: w})
	}
	return all
}

// largeEnds returns ends of the greatest sizes that fit, in increasing order.
func largeEnds() []api.Ratio {
	top, even := power(sturm.MaxEnd, -1), power(sturm.MaxEnd-1, 0)
	one := wide.Of(1)
	return []api.Ratio{{Num: opposite(top), Den: one}, {Num: opposite(top), Den: even}, {Num: opposite(one), Den: top}, {Num: one, Den: top}, {Num: even, Den: top}, {Num: power(300, 1), Den: power(301, 1)}, {Num: top, Den: even}, {Num: top, Den: one}}
}

// short returns a polynomial for a message.
func short(p api.Poly) string {
	texts := make([]string, min(len(p), 30))
	for i := range texts {
		texts[i] = bigOf(p[i]).String()
		if len(texts[i]) > 40 {
			texts[i] = texts[i][:20] + ".." + texts[i][len(texts[i])-10:]
		}
	}
	return "(" + strings.Join(texts, " ") + ")"
}

// lowest reports whether a ratio is valid and in lowest terms.
func lowest(r api.Ratio) bool { return wide.ValidRatio(r) && ratioOf(ratOf(r)) == r }

// order compares two valid ratios.
func order(a, b api.Ratio) int { return ratOf(a).Cmp(ratOf(b)) }

// expectNegative fails unless Negative tells whether a polynomial is negative somewhere, with such a number.
func expectNegative(t *testing.T, p api.Poly, a, b api.Ratio, want bool) {
	t.Helper()
	x, is, e := sign.Negative(p, a, b)
	if is != want || e != api.OK || !is && x != (api.Ratio{}) {
		t.Fatal("Negative", short(p), ratOf(a), ratOf(b), is, e)
	}
	if is && (!lowest(x) || order(a, x) > 0 || order(x, b) > 0 || valueAt(ratsOf(p), ratOf(x)).Sign() >= 0) {
		t.Fatal("Negative", short(p), ratOf(a), ratOf(b), ratOf(x))
	}
}

// expectProof fails unless Prove returns a proof, or ErrCheck if a polynomial is negative somewhere.
func expectProof(t *testing.T, p api.Poly, a, b api.Ratio, negative bool) {
	t.Helper()
	l, e := sign.Prove(p, a, b)
	if negative {
		if len(l) != 0 || e != api.ErrCheck {
			t.Fatal("Prove", short(p), ratOf(a), ratOf(b), len(l), e)
		}
		return
	}
	if e != api.OK || !isProof(p, a, b, l) {
		t.Fatal("Prove", short(p), ratOf(a), ratOf(b), len(l), e)
	}
	for _, part := range l {
		for _, w := range []api.Wide{part.From.Num, part.From.Den, part.To.Num, part.To.Den} {
			if wide.Len(w) > sturm.MaxEnd {
				t.Fatal("Prove", short(p), "an end does not fit")
			}
		}
	}
	if e := sign.Check(p, a, b, l); e != api.OK {
		t.Fatal("Check", short(p), ratOf(a), ratOf(b), len(l), e)
	}
}

// expectErrors fails unless all functions with ends return an error.
func expectErrors(t *testing.T, p api.Poly, a, b api.Ratio, want api.Errno) {
	t.Helper()
	if x, is, e := sign.Negative(p, a, b); x != (api.Ratio{}) || is || e != want {
		t.Error("Negative", short(p), is, e)
	}
	for _, halvings := range []int{0, sign.MaxHalvings} {
		if i, e := sign.First(p, a, b, halvings); i != (api.Interval{}) || e != want {
			t.Error("First", short(p), e)
		}
	}
	if l, e := sign.Prove(p, a, b); len(l) != 0 || e != want {
		t.Error("Prove", short(p), len(l), e)
	}
	for _, proof := range [][]api.SignPart{nil, {{Kind: api.SignPlain, From: ratio(0, 1), To: ratio(1, 1)}}} {
		if e := sign.Check(p, a, b, proof); e != want {
			t.Error("Check", short(p), e)
		}
	}
}
