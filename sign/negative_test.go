package sign_test

import (
	"math"
	"slices"
	"testing"

	"skylantern/api"
	"skylantern/poly"
	"skylantern/sign"
	"skylantern/sturm"
	"skylantern/wide"
)

// The tests of P4.2 and P4.3, and of the errors that all functions with ends have in common.

func TestNegativeExamples(t *testing.T) {
	third := ints(1, -6, 9)
	for _, c := range []struct {
		p        api.Poly
		from, to int
		want     bool
	}{
		{ints(1, -2, 1), 0, 2, false},
		{ints(-2, 0, 1), -1, 1, true},
		{ints(-2, 0, 1), 2, 3, false},
		{ints(-2, 0, 1), -2, 2, true},
		{ints(-2, 0, 1), 1, 2, true},
		{ints(-2, 0, 1), -9, -2, false},
		{ints(-1, 1), 1, 2, false},
		{ints(-1, 1), 1, 1, false},
		{ints(-1, 1), 0, 0, true},
		{ints(1, -1), 0, 1, false},
		{ints(1, -1), 1, 2, true},
		{ints(1, -1), 1, 1, false},
		{nil, 0, 5, false},
		{nil, 3, 3, false},
		{ints(5), -1, 1, false},
		{ints(-5), -1, 1, true},
		{ints(-5), 0, 0, true},
		{third, -3, 4, false},
		{product(third, ints(-1)), 0, 1, true},
		{product(third, linear(1, 3)), 0, 1, true},
		{product(third, linear(1, 3)), 1, 9, false},
		{ints(4, 0, -4, 0, 1), -9, 9, false},
		{ints(3, 0, -4, 0, 1), 1, 2, true},
		{ints(3, 0, -4, 0, 1), -1, 1, false},
		// 0 at both ends and negative in between; 0 at the end and halfway, too.
		{ints(0, -1, 1), 0, 1, true},
		{product(ints(0, -1, 1), ints(1, -4, 4)), 0, 1, true},
		// Negative only where it is 0, and so nowhere.
		{ints(0, 0, -1), 0, 0, false},
		{ints(0, 0, -1), 0, 1, true},
		{ints(0, 0, 0, 1), -1, 0, true},
		{ints(0, 0, 0, 1), 0, 1, false},
	} {
		expectNegative(t, c.p, ratio(c.from, 1), ratio(c.to, 1), c.want)
		expectProof(t, c.p, ratio(c.from, 1), ratio(c.to, 1), c.want)
	}
	// Ends need not be in lowest terms.
	expectNegative(t, ints(-2, 4), ratio(2, 4), ratio(6, 4), false)
	expectNegative(t, ints(-2, 4), ratio(2, 6), ratio(2, 4), true)
	expectNegative(t, ints(-2, 4), ratio(2, 6), ratio(3, 9), true)
}

// someEnds returns increasing ratios, some of them roots of samples.
func someEnds() []api.Ratio {
	return []api.Ratio{ratio(-50, 1), ratio(-5, 3), ratio(-1, 1), ratio(-1, 3), ratio(0, 1), ratio(1, 3), ratio(2, 4), ratio(3, 4), ratio(1, 1), ratio(3, 2), ratio(1000, 7)}
}

func TestNegativeAndProveSamples(t *testing.T) {
	ends := someEnds()
	for _, p := range samples() {
		for i, a := range ends {
			for _, b := range ends[i:] {
				want := isNegative(p, a, b)
				expectNegative(t, p, a, b, want)
				expectProof(t, p, a, b, want)
			}
		}
	}
}

func TestNegativeWithTheLargestEnds(t *testing.T) {
	r, ends := source(), largeEnds()
	for degree := 0; degree <= poly.MaxDegree; degree += 2 + degree/3 {
		all := []api.Poly{randomPoly(r, degree, most(degree), 1), randomPoly(r, degree, most(degree), 2)}
		if degree > 1 {
			q := randomPoly(r, degree/2, most(degree)/2-3, 1)
			all = append(all, product(q, q), product(q, q, ints(-1)))
		}
		for _, p := range all {
			a, b := ends[r.Intn(len(ends))], ends[r.Intn(len(ends))]
			if order(a, b) > 0 {
				a, b = b, a
			}
			for _, c := range [][2]api.Ratio{{ends[0], ends[len(ends)-1]}, {a, b}} {
				want := isNegative(p, c[0], c[1])
				expectNegative(t, p, c[0], c[1], want)
				expectProof(t, p, c[0], c[1], want)
			}
		}
	}
}

// thin returns a polynomial of a degree that is negative only between two roots near 2 to the power of -size that are 2 to the power of about (degree + 2) / 2 * -size apart: x^degree - 2 (a x - 1)^2, for an a of size bits, times -1.
func thin(degree, size int) api.Poly {
	a := power(size, -1)
	square := product(api.Poly{wide.Of(-1), a}, api.Poly{wide.Of(-1), a}, ints(2))
	p, _ := poly.Sub(square, append(make(api.Poly, degree), wide.Of(1)))
	return p
}

func TestNegativeInThinIntervals(t *testing.T) {
	for degree := 3; degree <= poly.MaxDegree; degree += 3 {
		p := thin(degree, (most(degree)-2)/2)
		if !sign.Fits(p) {
			t.Fatal("does not fit", degree)
		}
		expectNegative(t, p, ratio(0, 1), ratio(1, 1), true)
		expectProof(t, p, ratio(0, 1), ratio(1, 1), true)
	}
	// The roots n / a and (n + 1) / a, and a double root that is halfway.
	r := source()
	for _, size := range []int{20, 300, 1200} {
		a, n := power(size, 1), randomWide(r, size-1)
		n.Neg = false
		next, _ := wide.Add(n, wide.Of(1))
		double, _ := wide.Add(n, next)
		twice, _ := wide.Add(a, a)
		p := product(api.Poly{opposite(n), a}, api.Poly{opposite(next), a})
		middle := api.Poly{opposite(double), twice}
		for _, q := range []api.Poly{p, product(p, middle, middle)} {
			if !sign.Fits(q) {
				continue
			}
			at, after := api.Ratio{Num: n, Den: a}, api.Ratio{Num: next, Den: a}
			expectNegative(t, q, ratio(0, 1), ratio(1, 1), true)
			expectProof(t, q, ratio(0, 1), ratio(1, 1), true)
			if size < sturm.MaxEnd {
				expectNegative(t, q, at, after, true)
				expectNegative(t, q, ratio(0, 1), at, false)
				expectNegative(t, q, after, ratio(1, 1), false)
				expectProof(t, q, ratio(0, 1), at, false)
				expectProof(t, q, after, ratio(1, 1), false)
			}
		}
	}
}

// TestNegativeAroundDoubleRoots looks at polynomials that are 0 wherever an interval that is halved ends.
func TestNegativeAroundDoubleRoots(t *testing.T) {
	// In y they are negative from 1/4 to 3/4 but for a double root at 1/2; y is a power of 2 times x.
	in := product(linear(1, 4), linear(3, 4), linear(1, 2), linear(1, 2))
	for _, bits := range []int{0, 1, 5, 9, 60, 200} {
		p := slices.Clone(in)
		for i := range p {
			p[i], _ = wide.Shift(p[i], bits*i)
		}
		at := func(num, den int) api.Ratio {
			w, _ := wide.Shift(wide.Of(den), bits)
			return api.Ratio{Num: wide.Of(num), Den: w}
		}
		expectNegative(t, p, ratio(0, 1), ratio(1, 1), true)
		expectNegative(t, p, at(1, 4), at(3, 4), true)
		expectNegative(t, p, at(1, 4), at(1, 2), true)
		expectNegative(t, p, at(1, 2), at(3, 4), true)
		expectNegative(t, p, at(1, 2), at(1, 1), true)
		expectNegative(t, p, at(1, 2), at(1, 2), false)
		expectNegative(t, p, at(0, 1), at(1, 4), false)
		expectNegative(t, p, at(3, 4), ratio(1, 1), false)
	}
}

func TestFirstExamples(t *testing.T) {
	for i, c := range []struct {
		p        api.Poly
		from, to int
		halvings int
		want     api.Interval
	}{
		{ints(-1, 1), 0, 2, 1, between(0, 1, 1, 1)},
		{ints(1, -1), 0, 4, 2, between(1, 1, 2, 1)},
		{ints(1, -1), 0, 4, 0, between(0, 1, 4, 1)},
		{ints(1, -1), 0, 4, 1, between(0, 1, 2, 1)},
		{ints(1, -1), 0, 4, 3, between(1, 1, 3, 2)},
		{ints(1, -1), 0, 2, 1, between(1, 1, 2, 1)},
		{ints(-1), 0, 1, 3, between(0, 1, 1, 8)},
		{ints(-1), 2, 2, 5, between(2, 1, 2, 1)},
		{ints(0, -1), 0, 1, 2, between(0, 1, 1, 4)},
		{ints(-1, 2, -1), 0, 4, 2, between(0, 1, 1, 1)},
		{ints(2, -3, 1), 0, 4, 3, between(1, 1, 3, 2)},
		{ints(2, -3, 1), 0, 4, 2, between(1, 1, 2, 1)},
		// 0 but not negative at a double root before.
		{product(ints(1, -2, 1), linear(3, 1), ints(-1)), 0, 8, 3, between(3, 1, 4, 1)},
		// Negative again later.
		{product(linear(1, 1), linear(2, 1), linear(5, 1), linear(6, 1)), 0, 8, 3, between(1, 1, 2, 1)},
		{product(linear(1, 1), linear(2, 1), linear(5, 1), linear(6, 1)), 2, 8, 1, between(5, 1, 8, 1)},
		// Negative only at the end.
		{ints(7, -1), 0, 8, 2, between(6, 1, 8, 1)},
	} {
		i0, e := sign.First(c.p, ratio(c.from, 1), ratio(c.to, 1), c.halvings)
		if i0 != c.want || e != api.OK {
			t.Error(i, i0, e)
		}
	}
	// Ends come in lowest terms, also if nothing is halved.
	if i, e := sign.First(ints(-9, 1), ratio(-2, 6), ratio(4, 6), 0); i != between(-1, 3, 2, 3) || e != api.OK {
		t.Error(i, e)
	}
	if i, e := sign.First(ints(-9), ratio(6, 4), ratio(3, 2), 9); i != between(3, 2, 3, 2) || e != api.OK {
		t.Error(i, e)
	}
}

// expectFirst fails unless First returns the first interval, or ErrNone.
func expectFirst(t *testing.T, p api.Poly, a, b api.Ratio, halvings int) {
	t.Helper()
	var want api.Interval
	code := api.ErrNone
	if isNegative(p, a, b) {
		want, code = firstOf(p, a, b, halvings), api.OK
	}
	if i, e := sign.First(p, a, b, halvings); i != want || e != code {
		t.Fatal("First", short(p), ratOf(a), ratOf(b), halvings, i, want, e)
	}
}

func TestFirstSamples(t *testing.T) {
	ends := someEnds()
	for _, p := range samples() {
		for _, c := range [][2]int{{0, 10}, {0, 4}, {2, 8}, {4, 8}, {5, 7}, {4, 6}, {6, 6}, {8, 9}} {
			for _, halvings := range []int{0, 1, 3, 12} {
				expectFirst(t, p, ends[c[0]], ends[c[1]], halvings)
			}
		}
	}
}

func TestFirstWithMostHalvings(t *testing.T) {
	ends, r := largeEnds(), source()
	for degree := 1; degree <= poly.MaxDegree; degree += 1 + degree/3 {
		p := randomPoly(r, degree, most(degree), 1)
		expectFirst(t, p, ends[0], ends[len(ends)-1], sign.MaxHalvings)
		expectFirst(t, p, ends[3], ends[5], sign.MaxHalvings)
	}
	i, e := sign.First(ints(2, 0, -1), ratio(0, 1), ratio(2, 1), sign.MaxHalvings)
	width, _ := wide.SubRatio(i.To, i.From)
	if width != (api.Ratio{Num: wide.Of(1), Den: power(99, 0)}) || e != api.OK {
		t.Error(width, e)
	}
}

func TestHalvingsOfFirst(t *testing.T) {
	for _, halvings := range []int{-1, sign.MaxHalvings + 1, math.MinInt, math.MaxInt} {
		for _, p := range []api.Poly{ints(-1, 1), ints(1), nil, {power(9000, 0)}} {
			for _, c := range [][2]api.Ratio{{ratio(0, 1), ratio(1, 1)}, {ratio(1, 1), ratio(0, 1)}} {
				if i, e := sign.First(p, c[0], c[1], halvings); i != (api.Interval{}) || e != api.ErrArg {
					t.Error(halvings, i, e)
				}
			}
		}
	}
	for _, halvings := range []int{0, 1, sign.MaxHalvings} {
		for _, p := range []api.Poly{nil, ints(1), ints(1, -2, 1), ints(1, -6, 9), ints(0, 1)} {
			if i, e := sign.First(p, ratio(0, 1), ratio(2, 1), halvings); i != (api.Interval{}) || e != api.ErrNone {
				t.Error(halvings, short(p), i, e)
			}
		}
	}
}

func TestErrorsOfPolynomialsAndEnds(t *testing.T) {
	zero, one := ratio(0, 1), ratio(1, 1)
	large := api.Ratio{Num: power(sturm.MaxEnd, 0), Den: wide.Of(1)}
	small := api.Ratio{Num: opposite(large.Num), Den: wide.Of(1)}
	fine := api.Ratio{Num: wide.Of(1), Den: power(sturm.MaxEnd, 0)}
	big := api.Poly{power(8000, 0)}
	for _, p := range invalid() {
		expectErrors(t, p, zero, one, api.ErrArg)
		expectErrors(t, p, one, zero, api.ErrArg)
		expectErrors(t, p, zero, large, api.ErrArg)
	}
	for _, p := range []api.Poly{ints(-1, 1), nil, big} {
		for _, r := range invalidRatios() {
			expectErrors(t, p, r, one, api.ErrArg)
			expectErrors(t, p, zero, r, api.ErrArg)
			expectErrors(t, p, large, r, api.ErrArg)
		}
		expectErrors(t, p, one, zero, api.ErrRange)
		expectErrors(t, p, ratio(1, 2), ratio(3, 7), api.ErrRange)
		expectErrors(t, p, large, zero, api.ErrRange)
		expectErrors(t, p, zero, large, api.ErrFull)
		expectErrors(t, p, small, zero, api.ErrFull)
		expectErrors(t, p, fine, one, api.ErrFull)
		expectErrors(t, p, zero, fine, api.ErrFull)
		// An end fits by its numerator and denominator as they are given.
		expectErrors(t, p, zero, api.Ratio{Num: large.Num, Den: large.Num}, api.ErrFull)
	}
	for degree := range poly.MaxDegree + 1 {
		p := append(make(api.Poly, degree), wide.Of(-1))
		p[0] = power(most(degree), 0)
		expectErrors(t, p, zero, one, api.ErrFull)
	}
}
