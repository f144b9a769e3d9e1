package sign_test

import (
	"slices"
	"testing"

	"skylantern/api"
	"skylantern/poly"
	"skylantern/sign"
	"skylantern/wide"
)

// The tests of P4.1, and of the limits.

func TestLimits(t *testing.T) {
	if sign.MaxParts != 200 || sign.MaxHalvings != 100 {
		t.Error(sign.MaxParts, sign.MaxHalvings)
	}
}

func TestFits(t *testing.T) {
	for degree := range poly.MaxDegree + 1 {
		bits := most(degree)
		for _, at := range []int{0, degree / 2, degree} {
			p := slices.Repeat(ints(-1), degree+1)
			for _, a := range []api.Wide{power(bits, -1), opposite(power(bits, -1)), power(bits-1, 0)} {
				p[at] = a
				if !sign.Fits(p) {
					t.Error("does not fit:", degree, at)
				}
			}
			for _, a := range []api.Wide{power(bits, 0), opposite(power(bits, 0)), power(wide.MaxBits, -1)} {
				p[at] = a
				if sign.Fits(p) {
					t.Error("fits:", degree, at)
				}
			}
		}
	}
	if !sign.Fits(nil) || !sign.Fits(api.Poly{}) {
		t.Error("the zero polynomial does not fit")
	}
	for i, p := range invalid() {
		if sign.Fits(p) {
			t.Error("fits:", i)
		}
	}
}

func TestFitsOfNumbers(t *testing.T) {
	// 27 * 27 * (9 + 48 + 32) is 64881, and one bit more gives 65610, which is greater than 65536.
	for i, c := range []struct {
		degree, bits int
		fits         bool
	}{{24, 9, true}, {24, 10, false}, {1, 4062, true}, {1, 4063, false}, {0, 7249, true}, {0, 7250, false}, {5, 982, true}, {5, 983, false}, {10, 335, true}, {10, 336, false}} {
		p := append(make(api.Poly, c.degree), power(c.bits-1, 0))
		if sign.Fits(p) != c.fits {
			t.Error(i)
		}
	}
}

// expectOdd fails unless Odd returns what the chapter defines.
func expectOdd(t *testing.T, p api.Poly) {
	t.Helper()
	want := polyOf(oddPart(ratsOf(p)))
	if o, e := sign.Odd(p); !slices.Equal(o, want) || e != api.OK {
		t.Fatal("Odd", short(p), short(o), short(want), e)
	}
}

func TestOddExamples(t *testing.T) {
	x, y, z := linear(1, 2), linear(-3, 1), ints(1, 0, 1)
	for i, c := range []struct{ p, want api.Poly }{
		{ints(0, 0, -1, 1), ints(-1, 1)},
		{ints(4, -4, 1), ints(1)},
		{ints(-7), ints(1)},
		{ints(6), ints(1)},
		{ints(0, 0, 0, -2), ints(0, 1)},
		{ints(-2, 0, 1), ints(-2, 0, 1)},
		{ints(4, -2), ints(-2, 1)},
		{ints(-6, 4), ints(-3, 2)},
		{product(x, x, x, x, y), y},
		{product(x, x, x, x, x, y, y, ints(-30)), x},
		{product(x, x, x, y, y, z, z, z, z, z), product(x, z)},
		{product(x, x, y, y, y, y, z, z), ints(1)},
		{product(x, y, z, ints(-1)), product(x, y, z)},
		{product(x, x, x, y, y, y, z, z, z), product(x, y, z)},
		{slices.Concat(make(api.Poly, 24), ints(5)), ints(1)},
		{slices.Concat(make(api.Poly, 23), ints(-5)), ints(0, 1)},
	} {
		if o, e := sign.Odd(c.p); !slices.Equal(o, c.want) || e != api.OK {
			t.Error(i, short(o), e)
		}
	}
}

func TestOddSamples(t *testing.T) {
	for _, p := range samples() {
		if len(p) > 0 {
			expectOdd(t, p)
		}
	}
	r := source()
	for range 150 {
		if p := randomProduct(r, 1+r.Intn(8)); sign.Fits(p) {
			expectOdd(t, p)
		}
	}
}

// TestLargestOdd looks at the greatest polynomials that fit, also with factors of many bits: no calculation on the way may be too large for the layers below.
func TestLargestOdd(t *testing.T) {
	r := source()
	for degree := range poly.MaxDegree + 1 {
		bits := most(degree)
		all := []api.Poly{randomPoly(r, degree, bits, 1), slices.Repeat(api.Poly{power(bits, -1)}, degree+1)}
		for _, multiplicity := range []int{2, 3, 4} {
			factor := degree / multiplicity
			if size := bits/multiplicity - 5; factor > 0 && size > 0 {
				p := slices.Repeat([]api.Poly{randomPoly(r, factor, size, 1)}, multiplicity)
				all = append(all, product(append(p, randomPoly(r, degree-factor*multiplicity, 1, 1))...))
			}
		}
		for i, p := range all {
			if !sign.Fits(p) && i < 2 {
				t.Fatal("does not fit", degree, i)
			}
			if sign.Fits(p) {
				expectOdd(t, p)
			}
		}
	}
	// The factors (x - 1)^11 and (x + 1)^11 have greater coefficients than the product.
	expectOdd(t, product(slices.Repeat([]api.Poly{ints(-1, 0, 1)}, 11)...))
}

func TestErrorsOfOdd(t *testing.T) {
	for i, p := range invalid() {
		if o, e := sign.Odd(p); len(o) != 0 || e != api.ErrArg {
			t.Error(i, e)
		}
	}
	for _, p := range []api.Poly{nil, {}} {
		if o, e := sign.Odd(p); len(o) != 0 || e != api.ErrRange {
			t.Error(e)
		}
	}
	for degree := range poly.MaxDegree + 1 {
		p := append(make(api.Poly, degree), power(most(degree), 0))
		if o, e := sign.Odd(p); len(o) != 0 || e != api.ErrFull {
			t.Error(degree, e)
		}
	}
}
