package sturm_test

import (
	"math/big"
	"testing"

	"skylantern/api"
	"skylantern/poly"
	"skylantern/sturm"
	"skylantern/wide"
)

// The tests of P3.3.

func TestCountExamples(t *testing.T) {
	// The roots of this one are 1, 1, 2 and 3.
	several := ints(6, -17, 17, -7, 1)
	for _, c := range []struct {
		p              api.Poly
		from, to, want int
	}{
		{ints(-2, 0, 1), 0, 2, 1},
		{ints(-2, 0, 1), -2, 2, 2},
		{ints(-2, 0, 1), -1, 1, 0},
		{ints(0, 1), 0, 1, 0},
		{ints(0, 1), -1, 0, 1},
		{ints(0, 1), 0, 0, 0},
		{ints(0, 0, 0, -3), -1, 0, 1},
		{ints(0, 0, 0, -3), 0, 9, 0},
		{ints(-7), -9, 9, 0},
		{several, 0, 4, 3},
		{several, 0, 1, 1},
		{several, 1, 3, 2},
		{several, 1, 2, 1},
		{several, 2, 2, 0},
		{several, 3, 9, 0},
		{several, -9, 0, 0},
	} {
		expectCount(t, c.p, ratio(c.from, 1), ratio(c.to, 1), c.want)
	}
	// Ends need not be in lowest terms.
	expectCount(t, ints(-3, 2), ratio(6, 4), ratio(8, 2), 0)
	expectCount(t, ints(-3, 2), ratio(0, 7), ratio(6, 4), 1)
}

func TestTotalExamples(t *testing.T) {
	for i, c := range []struct {
		p    api.Poly
		want int
	}{{ints(1, 0, 1), 0}, {ints(0, -1, 0, 1), 3}, {ints(0, 1, 0, -1), 3}, {ints(6, -17, 17, -7, 1), 3}, {ints(1, 0, -10, 0, 1), 4}, {ints(5), 0}, {ints(-5), 0}, {ints(0, 0, 0, 1), 1}, {ints(1, -2), 1}, {ints(1, 0, 2, 0, 1), 0}, {ints(-2, 0, 0, 0, 0, 1), 1}} {
		if n, e := sturm.Total(c.p); n != c.want || e != api.OK {
			t.Error("Total", i, n, e)
		}
	}
}

// TestCounts holds Count and Total against Descartes' rule, with ends at roots, between them and far away.
func TestCounts(t *testing.T) {
	ends := []api.Ratio{ratio(-1<<40, 1), ratio(-12, 1), ratio(-7, 4), ratio(-5, 3), ratio(-1, 1), ratio(-2, 7), ratio(0, 1), ratio(0, 5), ratio(2, 2), ratio(7, 5), ratio(3, 2), ratio(12, 1), ratio(1<<40, 3)}
	for _, p := range samples() {
		s := squareFree(ratsOf(p))
		for i, a := range ends {
			for _, b := range ends[i:] {
				expectCount(t, p, a, b, rootsIn(s, ratOf(a), ratOf(b)))
			}
		}
		// All samples have small coefficients.
		far := new(big.Rat).SetInt(bigOf(power(40, 0)))
		want := rootsIn(s, new(big.Rat).Neg(far), far)
		if n, e := sturm.Total(p); n != want || e != api.OK {
			t.Error("Total", short(p), n, want, e)
		}
	}
}

func TestCountWithTheLargestEnds(t *testing.T) {
	top, one := power(sturm.MaxEnd, -1), wide.Of(1)
	low, high := api.Ratio{Num: negative(top), Den: one}, api.Ratio{Num: top, Den: one}
	r := source()
	for degree := range poly.MaxDegree + 1 {
		p := randomPoly(r, degree, min(most(degree), 500), 1)
		n, e := sturm.Total(p)
		if e != api.OK {
			t.Fatal("Total", short(p), e)
		}
		// The bound of p is less than these ends.
		expectCount(t, p, low, high, n)
		expectCount(t, p, low, api.Ratio{Num: one, Den: top}, n-mustCount(t, p, api.Ratio{Num: one, Den: top}, high))
		expectCount(t, p, api.Ratio{Num: power(sturm.MaxEnd-1, 0), Den: one}, api.Ratio{Num: top, Den: one}, 0)
	}
	// The root of this one is the greatest end, and the next one a little smaller.
	p := api.Poly{negative(top), power(sturm.MaxEnd, -2)}
	root := api.Ratio{Num: top, Den: power(sturm.MaxEnd, -2)}
	expectCount(t, p, ratio(0, 1), root, 1)
	expectCount(t, p, root, high, 0)
	expectCount(t, p, api.Ratio{Num: power(sturm.MaxEnd, -2), Den: power(sturm.MaxEnd, -3)}, high, 0)
	expectCount(t, p, ratio(1, 1), api.Ratio{Num: power(sturm.MaxEnd, -2), Den: power(sturm.MaxEnd, -3)}, 1)
}

// mustCount returns the number of roots, which must have no error.
func mustCount(t *testing.T, p api.Poly, a, b api.Ratio) int {
	t.Helper()
	n, e := sturm.Count(p, a, b)
	if e != api.OK {
		t.Fatal("Count", short(p), e)
	}
	return n
}

func TestErrorsOfEnds(t *testing.T) {
	p, zero := ints(-2, 0, 1), ratio(0, 1)
	large := api.Poly{power(9000, 0)}
	over, one := power(sturm.MaxEnd, 0), wide.Of(1)
	for _, bad := range invalidRatios() {
		for _, q := range []api.Poly{p, large, nil} {
			expectNoRoots(t, q, bad, zero, api.ErrArg)
			expectNoRoots(t, q, zero, bad, api.ErrArg)
			expectNoRoots(t, q, bad, api.Ratio{Num: over, Den: one}, api.ErrArg)
		}
	}
	for _, bad := range invalid() {
		expectNoRoots(t, bad, ratio(1, 1), zero, api.ErrArg)
	}
	for _, q := range []api.Poly{p, large, nil} {
		expectNoRoots(t, q, ratio(1, 1), zero, api.ErrRange)
		expectNoRoots(t, q, ratio(-1, 3), ratio(-1, 2), api.ErrRange)
		expectNoRoots(t, q, api.Ratio{Num: over, Den: one}, zero, api.ErrRange)
	}
	for _, bad := range []api.Ratio{{Num: over, Den: one}, {Num: one, Den: over}, {Num: over, Den: over}, {Num: over, Den: power(sturm.MaxEnd, -1)}} {
		expectNoRoots(t, p, zero, bad, api.ErrFull)
		expectNoRoots(t, p, bad, bad, api.ErrFull)
		expectNoRoots(t, p, api.Ratio{Num: negative(bad.Num), Den: bad.Den}, zero, api.ErrFull)
		expectNoRoots(t, nil, zero, bad, api.ErrRange)
	}
	expectNoRoots(t, large, zero, zero, api.ErrFull)
}
