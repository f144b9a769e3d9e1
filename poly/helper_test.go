package poly_test

import (
	"math/big"
	"math/rand"
	"slices"
	"strings"
	"testing"

	"skylantern/api"
	"skylantern/poly"
	"skylantern/wide"
)

// bigs are the coefficients of a polynomial, the lowest one first, without zeros at the end; all results are held against them.
type bigs []*big.Int

// bigOf returns a wide integer as a big one.
func bigOf(w api.Wide) *big.Int {
	n := new(big.Int).SetBytes([]byte(w.Mag))
	if w.Neg {
		n.Neg(n)
	}
	return n
}

// wideOf returns a big integer as a wide one.
func wideOf(n *big.Int) api.Wide {
	return api.Wide{Neg: n.Sign() < 0, Mag: string(n.Bytes())}
}

// bigsOf returns the coefficients of a polynomial.
func bigsOf(p api.Poly) bigs {
	out := make(bigs, len(p))
	for i, a := range p {
		out[i] = bigOf(a)
	}
	return out
}

// polyOf returns the polynomial with some coefficients, zeros at the end left out.
func polyOf(l bigs) api.Poly {
	l = trim(l)
	out := make(api.Poly, len(l))
	for i, n := range l {
		out[i] = wideOf(n)
	}
	return out
}

// trim returns coefficients without zeros at the end.
func trim(l bigs) bigs {
	for len(l) > 0 && l[len(l)-1].Sign() == 0 {
		l = l[:len(l)-1]
	}
	return l
}

// zeros returns some coefficients that are 0.
func zeros(n int) bigs {
	out := make(bigs, n)
	for i := range out {
		out[i] = new(big.Int)
	}
	return out
}

// ints returns the list of some ints, as it is.
func ints(l ...int) api.Poly {
	out := make(api.Poly, len(l))
	for i, n := range l {
		out[i] = wide.Of(n)
	}
	return out
}

// ratio returns a ratio of ints, as it is.
func ratio(num, den int) api.Ratio {
	return api.Ratio{Num: wide.Of(num), Den: wide.Of(den)}
}

// below returns 2 to the power of a number minus 1, the greatest integer with so many bits.
func below(bits int) api.Wide {
	n := new(big.Int).Lsh(big.NewInt(1), uint(bits))
	return wideOf(n.Sub(n, big.NewInt(1)))
}

// negative returns the negative of an integer.
func negative(w api.Wide) api.Wide {
	return wideOf(new(big.Int).Neg(bigOf(w)))
}

// full returns a polynomial all of whose coefficients have the greatest magnitude with some bits; every step-th one is negative, none if step is 0.
func full(degree, bits, step int) api.Poly {
	out := slices.Repeat(api.Poly{below(bits)}, degree+1)
	for i := step - 1; step > 0 && i <= degree; i += step {
		out[i] = negative(out[i])
	}
	return out
}

// source returns numbers that look random and are the same in every run.
func source() *rand.Rand { return rand.New(rand.NewSource(1)) }

// randomWide returns an integer of at most some bits, often with many equal bits.
func randomWide(r *rand.Rand, bits int) api.Wide {
	n := new(big.Int).Rand(r, new(big.Int).Lsh(big.NewInt(1), uint(bits)))
	if r.Intn(3) == 0 {
		n = new(big.Int).Rsh(bigOf(below(bits)), uint(r.Intn(bits+1)))
	}
	if r.Intn(2) == 0 {
		n.Neg(n)
	}
	return wideOf(n)
}

// randomPoly returns a polynomial of a degree whose coefficients have at most some bits; a few of them are 0.
func randomPoly(r *rand.Rand, degree, bits int) api.Poly {
	out := make(api.Poly, degree+1)
	for i := range out {
		if r.Intn(5) > 0 || i == degree {
			out[i] = randomWide(r, bits)
		}
	}
	if degree >= 0 && wide.Sign(out[degree]) == 0 {
		out[degree] = wide.Of(1 - 2*r.Intn(2))
	}
	return out
}

// samples returns polynomials of all kinds of degrees and bits: the zero polynomial, constants, and such that have factors in common.
func samples() []api.Poly {
	all := []api.Poly{nil, {}, ints(1), ints(-1), ints(6), ints(-15), ints(0, 1), ints(0, -4), ints(1, 1), ints(-1, 1), ints(2, 2), ints(-1, 0, 1), ints(1, 2, 1), ints(2, 4, 2), ints(-6, 0, -9), ints(0, 0, 0, 5), ints(1, -3, 0, 2), ints(-2, 0, 1), ints(0, 0, -1, 1), ints(7, 0, 0, 0, 0, 0, -7), full(24, 70, 2), full(24, 1, 0)}
	r := source()
	for degree := range 25 {
		all = append(all, randomPoly(r, degree, 1+r.Intn(60)))
	}
	for range 6 {
		all = append(all, randomPoly(r, r.Intn(8), 200))
	}
	return all
}

// pairs calls a function for all pairs of samples.
func pairs(do func(p, q api.Poly)) {
	all := samples()
	for _, p := range all {
		for _, q := range all {
			do(p, q)
		}
	}
}

// invalid returns polynomials that are not valid.
func invalid() []api.Poly {
	return []api.Poly{
		ints(0),
		ints(1, 0),
		ints(0, 0, 0),
		slices.Repeat(ints(1), poly.MaxDegree+2),
		append(make(api.Poly, 1<<20), wide.Of(1)),
		{{Neg: true}},
		{{Mag: "\x00"}},
		{{Mag: "\x00\x01"}, wide.Of(1)},
		{wide.Of(1), {Neg: true, Mag: "\x00\x01"}},
		{{Neg: true}, wide.Of(1)},
		{wide.Of(1), {Mag: strings.Repeat("\x01", wide.MaxBits/8+1)}},
	}
}

// invalidWides returns integers that are not valid.
func invalidWides() []api.Wide {
	return []api.Wide{{Neg: true}, {Mag: "\x00"}, {Mag: "\x00\x05"}, {Neg: true, Mag: strings.Repeat("\x01", wide.MaxBits/8+1)}}
}

// invalidRatios returns ratios that are not valid.
func invalidRatios() []api.Ratio {
	all := []api.Ratio{{}, ratio(1, 0), ratio(0, 0), ratio(1, -1)}
	for _, w := range invalidWides() {
		all = append(all, api.Ratio{Num: w, Den: wide.Of(1)}, api.Ratio{Num: wide.Of(1), Den: w})
	}
	return all
}

// short returns a polynomial for a message.
func short(p api.Poly) string {
	texts := make([]string, len(p))
	for i, a := range p {
		texts[i] = bigOf(a).String()
		if len(texts[i]) > 40 {
			texts[i] = texts[i][:20] + ".." + texts[i][len(texts[i])-10:]
		}
	}
	return "(" + strings.Join(texts, " ") + ")"
}

// expect fails unless a polynomial has no error and the wanted coefficients.
func expect(t *testing.T, what string, got api.Poly, e api.Errno, want bigs) {
	t.Helper()
	if p := polyOf(want); e != api.OK || !slices.Equal(got, p) {
		t.Fatalf("%s: got %s, error %d; want %s", what, short(got), e, short(p))
	}
}

// expectOr fails unless a polynomial has the wanted coefficients, or ErrFull if one of them has too many bits.
func expectOr(t *testing.T, what string, got api.Poly, e api.Errno, want bigs) {
	t.Helper()
	for _, n := range want {
		if n.BitLen() > wide.MaxBits {
			expectError(t, what, got, e, api.ErrFull)
			return
		}
	}
	expect(t, what, got, e, want)
}

// expectError fails unless a polynomial is empty and an error is the wanted one.
func expectError(t *testing.T, what string, got api.Poly, e, want api.Errno) {
	t.Helper()
	if len(got) != 0 || e != want {
		t.Errorf("%s: got %s, error %d; want no result, error %d", what, short(got), e, want)
	}
}

// expectNone fails unless a result is the zero value and an error is the wanted one.
func expectNone[T comparable](t *testing.T, what string, got T, e, want api.Errno) {
	t.Helper()
	var zero T
	if got != zero || e != want {
		t.Errorf("%s: got %v, error %d; want no result, error %d", what, got, e, want)
	}
}
