package sturm_test

import (
	"slices"
	"testing"

	"skylantern/api"
	"skylantern/poly"
	"skylantern/sturm"
	"skylantern/wide"
)

// The tests of P3.2.

// expectChain fails unless SquareFree and Chain return what the chapter defines.
func expectChain(t *testing.T, p api.Poly) {
	t.Helper()
	want := chainOf(ratsOf(p))
	s, e := sturm.SquareFree(p)
	if !slices.Equal(s, polyOf(want[0])) || e != api.OK {
		t.Fatal("SquareFree", short(p), short(s), e)
	}
	l, e := sturm.Chain(p)
	if len(l) != len(want) || e != api.OK {
		t.Fatal("Chain", short(p), len(l), len(want), e)
	}
	for i, q := range l {
		if !slices.Equal(q, polyOf(want[i])) {
			t.Fatal("Chain", short(p), i, short(q))
		}
	}
}

func TestChainExamples(t *testing.T) {
	for i, c := range []struct {
		p    api.Poly
		want []api.Poly
	}{
		{ints(1, 2, 1), []api.Poly{ints(1, 1), ints(1)}},
		{ints(0, 0, -6), []api.Poly{ints(0, 1), ints(1)}},
		{ints(5), []api.Poly{ints(1)}},
		{ints(-4), []api.Poly{ints(1)}},
		{ints(3, -2), []api.Poly{ints(-3, 2), ints(1)}},
		{ints(-2, 0, 1), []api.Poly{ints(-2, 0, 1), ints(0, 1), ints(1)}},
		{ints(4, 0, -2), []api.Poly{ints(-2, 0, 1), ints(0, 1), ints(1)}},
		{ints(1, 0, 1), []api.Poly{ints(1, 0, 1), ints(0, 1), ints(-1)}},
		{ints(-1, 1, 1, -1), []api.Poly{ints(-1, 0, 1), ints(0, 1), ints(1)}},
		{ints(1, -3, 0, 1), []api.Poly{ints(1, -3, 0, 1), ints(-1, 0, 1), ints(-1, 2), ints(1)}},
		// The leading coefficient of the third element is negative, and the division of the second one by it has three steps.
		{ints(1, 1, 0, 0, 1), []api.Poly{ints(1, 1, 0, 0, 1), ints(1, 0, 0, 4), ints(-4, -3), ints(1)}},
		// The same with two steps.
		{ints(1, 1, 0, 1), []api.Poly{ints(1, 1, 0, 1), ints(1, 0, 3), ints(-3, -2), ints(-1)}},
		{ints(-1, 0, 0, 0, 0, 1), []api.Poly{ints(-1, 0, 0, 0, 0, 1), ints(0, 0, 0, 0, 1), ints(1)}},
	} {
		s, e := sturm.SquareFree(c.p)
		if !slices.Equal(s, c.want[0]) || e != api.OK {
			t.Error("SquareFree", i, short(s), e)
		}
		if l, e := sturm.Chain(c.p); !slices.EqualFunc(l, c.want, poly.Equal) || e != api.OK {
			t.Error("Chain", i, l, e)
		}
	}
}

func TestChains(t *testing.T) {
	for _, p := range samples() {
		expectChain(t, p)
		q, _ := poly.Scale(p, wide.Of(-30))
		expectChain(t, q)
	}
	r := source()
	for range 200 {
		expectChain(t, randomPoly(r, 1+r.Intn(8), 1+r.Intn(20), 1+r.Intn(4)))
		expectChain(t, randomProduct(r, 1+r.Intn(7)))
	}
}

// TestLargestChains looks at the greatest polynomials that fit: no calculation on the way may be too large for the layers below.
func TestLargestChains(t *testing.T) {
	r := source()
	for degree := range poly.MaxDegree + 1 {
		bits := most(degree)
		expectChain(t, randomPoly(r, degree, bits, 1))
		expectChain(t, randomPoly(r, degree, bits, 3))
		expectChain(t, slices.Repeat(api.Poly{power(bits, -1)}, degree+1))
		if degree > 1 {
			// The degrees of the chain of this one fall by more than one.
			gap := append(make(api.Poly, degree), power(bits-1, 1))
			gap[0], gap[degree/2] = power(bits, -3), negative(power(bits, -1))
			expectChain(t, gap)
			// The square-free part of this one has nearly as many bits as the whole.
			s := randomPoly(r, degree-2, bits-3, 1)
			expectChain(t, product(s, ints(1, -2, 1)))
		}
	}
}
