package sturm_test

import (
	"math/big"
	"math/rand"
	"slices"
	"strings"
	"testing"

	"skylantern/api"
	"skylantern/poly"
	"skylantern/sturm"
	"skylantern/wide"
)

// bigOf returns a wide integer as a big one.
func bigOf(w api.Wide) *big.Int {
	n := new(big.Int).SetBytes([]byte(w.Mag))
	if w.Neg {
		n.Neg(n)
	}
	return n
}

// wideOf returns a big integer as a wide one.
func wideOf(n *big.Int) api.Wide {
	return api.Wide{Neg: n.Sign() < 0, Mag: string(n.Bytes())}
}

// power returns 2 to the power of a number, plus a number.
func power(bits, plus int) api.Wide {
	n := new(big.Int).Lsh(big.NewInt(1), uint(bits))
	return wideOf(n.Add(n, big.NewInt(int64(plus))))
}

// negative returns the negative of an integer.
func negative(w api.Wide) api.Wide { return wideOf(new(big.Int).Neg(bigOf(w))) }

// ints returns the list of some ints, as it is.
func ints(l ...int) api.Poly {
	out := make(api.Poly, len(l))
	for i, n := range l {
		out[i] = wide.Of(n)
	}
	return out
}

// ratio returns a ratio of ints, as it is.
func ratio(num, den int) api.Ratio { return api.Ratio{Num: wide.Of(num), Den: wide.Of(den)} }

// ratOf returns a valid ratio as a big one.
func ratOf(r api.Ratio) *big.Rat { return new(big.Rat).SetFrac(bigOf(r.Num), bigOf(r.Den)) }

// ratioOf returns a big ratio as one in lowest terms.
func ratioOf(r *big.Rat) api.Ratio { return api.Ratio{Num: wideOf(r.Num()), Den: wideOf(r.Denom())} }

// product returns the product of some polynomials.
func product(all ...api.Poly) api.Poly {
	out := ints(1)
	for _, p := range all {
		next, e := poly.Mul(out, p)
		if e != api.OK {
			panic("a product in a test is too large")
		}
		out = next
	}
	return out
}

// linear returns the polynomial with a single root, num divided by den.
func linear(num, den int) api.Poly { return ints(-num, den) }

// source returns numbers that look random and are the same in every run.
func source() *rand.Rand { return rand.New(rand.NewSource(1)) }

// randomWide returns an integer of at most some bits, with any sign.
func randomWide(r *rand.Rand, bits int) api.Wide {
	n := new(big.Int).Rand(r, new(big.Int).Lsh(big.NewInt(1), uint(bits)))
	if r.Intn(2) == 0 {
		n.Neg(n)
	}
	return wideOf(n)
}

// randomPoly returns a polynomial of a degree whose coefficients have at most some bits; of so many of them as sparse says, all but one are 0.
func randomPoly(r *rand.Rand, degree, bits, sparse int) api.Poly {
	out := make(api.Poly, degree+1)
	for i := range out {
		if r.Intn(sparse) == 0 || i == degree {
			out[i] = randomWide(r, bits)
		}
	}
	if wide.Sign(out[degree]) == 0 {
		out[degree] = wide.Of(1 - 2*r.Intn(2))
	}
	return out
}

// randomProduct returns a product of some small factors, many of them equal, with roots at small ratios, at other real numbers and not real.
func randomProduct(r *rand.Rand, factors int) api.Poly {
	all := []api.Poly{linear(0, 1), linear(1, 1), linear(-1, 1), linear(3, 2), linear(-7, 4), linear(5, -3), linear(12, 1), ints(-2, 0, 1), ints(1, 0, 1), ints(-1, 3, 5), ints(3, -1, 1), ints(-3, 0, 0, 2), ints(6), ints(-1)}
	l := make([]api.Poly, factors)
	for i := range l {
		l[i] = all[r.Intn(len(all))]
		if i > 0 && r.Intn(3) == 0 {
			l[i] = l[i-1]
		}
	}
	return product(l...)
}

// samples returns polynomials of many kinds, none of them the zero polynomial.
func samples() []api.Poly {
	all := []api.Poly{ints(1), ints(-1), ints(6), ints(-15), ints(0, 1), ints(0, -4), ints(1, 1), ints(3, -2), ints(-1, 0, 1), ints(1, 2, 1), ints(-2, -4, -2), ints(-6, 0, -9), ints(0, 0, 0, 5), ints(1, -3, 0, 2), ints(-2, 0, 1), ints(0, 0, -1, 1), ints(7, 0, 0, 0, 0, 0, -7), ints(1, 0, -10, 0, 1), ints(6, -17, 17, -7, 1)}
	r := source()
	for degree := range poly.MaxDegree + 1 {
		all = append(all, randomPoly(r, degree, 1+r.Intn(30), 1), randomPoly(r, degree, 1+r.Intn(12), 4))
	}
	for factors := range 9 {
		all = append(all, randomProduct(r, factors), randomProduct(r, factors))
	}
	return all
}

// most returns the most bits of a polynomial of a degree that fits.
func most(degree int) int { return wide.MaxBits/((degree+3)*(degree+3)) - 16 }

// invalid returns polynomials that are not valid.
func invalid() []api.Poly {
	return []api.Poly{
		ints(0),
		ints(1, 0),
		slices.Repeat(ints(1), poly.MaxDegree+2),
		append(make(api.Poly, 1<<20), wide.Of(1)),
		{{Neg: true}},
		{{Mag: "\x00\x01"}, wide.Of(1)},
		{wide.Of(1), {Mag: strings.Repeat("\x01", wide.MaxBits/8+1)}},
	}
}

// invalidRatios returns ratios that are not valid.
func invalidRatios() []api.Ratio {
	all := []api.Ratio{{}, ratio(1, 0), ratio(0, 0), ratio(1, -1)}
	for _, w := range []api.Wide{{Neg: true}, {Mag: "\x00"}, {Mag: strings.Repeat("\x01", wide.MaxBits/8+1)}} {
		all = append(all, api.Ratio{Num: w, Den: wide.Of(1)}, api.Ratio{Num: wide.Of(1), Den: w})
	}
	return all
}

// short returns a polynomial for a message.
func short(p api.Poly) string {
	texts := make([]string, len(p))
	for i, a := range p {
		texts[i] = bigOf(a).String()
		if len(texts[i]) > 40 {
			texts[i] = texts[i][:20] + ".." + texts[i][len(texts[i])-10:]
		}
	}
	return "(" + strings.Join(texts, " ") + ")"
}

// expectCount fails unless Count has no error and returns a number.
func expectCount(t *testing.T, p api.Poly, a, b api.Ratio, want int) {
	t.Helper()
	if n, e := sturm.Count(p, a, b); n != want || e != api.OK {
		t.Fatalf("Count %s from %s to %s: got %d, error %d; want %d", short(p), ratOf(a), ratOf(b), n, e, want)
	}
}

// expectErrors fails unless all functions return an error for a polynomial, those with ends for any.
func expectErrors(t *testing.T, p api.Poly, want api.Errno) {
	t.Helper()
	b, e := sturm.Bound(p)
	s, f := sturm.SquareFree(p)
	l, g := sturm.Chain(p)
	n, h := sturm.Total(p)
	if b != (api.Wide{}) || len(s) != 0 || len(l) != 0 || n != 0 || e != want || f != want || g != want || h != want {
		t.Error(short(p[:min(len(p), 30)]), "Bound, SquareFree, Chain, Total:", e, f, g, h)
	}
	expectNoRoots(t, p, ratio(-1, 2), ratio(5, 1), want)
}

// expectNoRoots fails unless Count and Isolate return an error.
func expectNoRoots(t *testing.T, p api.Poly, a, b api.Ratio, want api.Errno) {
	t.Helper()
	if n, e := sturm.Count(p, a, b); n != 0 || e != want {
		t.Error("Count", short(p[:min(len(p), 30)]), n, e)
	}
	for _, halvings := range []int{0, sturm.MaxHalvings} {
		if l, e := sturm.Isolate(p, a, b, halvings); len(l) != 0 || e != want {
			t.Error("Isolate", short(p[:min(len(p), 30)]), len(l), e)
		}
	}
}
