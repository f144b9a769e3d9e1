package sturm_test

import (
	"math/big"
	"slices"
	"testing"

	"skylantern/api"
	"skylantern/poly"
	"skylantern/sturm"
	"skylantern/wide"
)

// The tests of P3.1, and of the errors that all functions with polynomials have in common.

func TestFits(t *testing.T) {
	for degree := range poly.MaxDegree + 1 {
		bits := most(degree)
		for _, at := range []int{0, degree / 2, degree} {
			p := slices.Repeat(ints(-1), degree+1)
			for _, a := range []api.Wide{power(bits, -1), negative(power(bits, -1)), power(bits-1, 0)} {
				p[at] = a
				if !sturm.Fits(p) {
					t.Error("does not fit:", degree, at)
				}
			}
			for _, a := range []api.Wide{power(bits, 0), negative(power(bits, 0)), power(wide.MaxBits, -1)} {
				p[at] = a
				if sturm.Fits(p) {
					t.Error("fits:", degree, at)
				}
			}
		}
	}
	if !sturm.Fits(nil) || !sturm.Fits(api.Poly{}) {
		t.Error("the zero polynomial does not fit")
	}
	for i, p := range invalid() {
		if sturm.Fits(p) {
			t.Error("fits:", i)
		}
	}
}

func TestFitsOfNumbers(t *testing.T) {
	// 27 * 27 * (73 + 16) is 64881, and one bit more gives 65610, which is greater than 65536.
	for i, c := range []struct {
		degree, bits int
		fits         bool
	}{{24, 73, true}, {24, 74, false}, {1, 4080, true}, {1, 4081, false}, {0, 7265, true}, {0, 7266, false}, {5, 1008, true}, {5, 1009, false}} {
		p := append(make(api.Poly, c.degree), power(c.bits-1, 0))
		if sturm.Fits(p) != c.fits {
			t.Error(i)
		}
	}
}

func TestBound(t *testing.T) {
	for i, c := range []struct {
		p    api.Poly
		want int
	}{{ints(-2, 0, 1), 4}, {ints(3), 2}, {ints(-3), 2}, {ints(7, -9, 2), 6}, {ints(7, -9, -2), 6}, {ints(-10, 9, 2), 7}, {ints(0, 0, 5), 2}, {ints(4, 5), 2}, {ints(5, 5), 3}, {ints(-5, -5), 3}, {ints(-11, 3), 5}, {ints(0, 7, -100), 2}} {
		if b, e := sturm.Bound(c.p); b != wide.Of(c.want) || e != api.OK {
			t.Error("Bound", i, b, e)
		}
	}
	r := source()
	for degree := range poly.MaxDegree + 1 {
		p := randomPoly(r, degree, most(degree), 1)
		p[degree] = randomWide(r, most(degree)/2)
		if wide.Sign(p[degree]) == 0 {
			continue
		}
		greatest := new(big.Int)
		for _, a := range p[:degree] {
			if n := new(big.Int).Abs(bigOf(a)); n.Cmp(greatest) > 0 {
				greatest = n
			}
		}
		want := greatest.Quo(greatest, new(big.Int).Abs(bigOf(p[degree])))
		if b, e := sturm.Bound(p); b != wideOf(want.Add(want, big.NewInt(2))) || e != api.OK {
			t.Error("Bound", short(p), b, e)
		}
	}
}

func TestErrorsOfPolynomials(t *testing.T) {
	for _, p := range invalid() {
		expectErrors(t, p, api.ErrArg)
	}
	expectErrors(t, nil, api.ErrRange)
	expectErrors(t, api.Poly{}, api.ErrRange)
	for degree := range poly.MaxDegree + 1 {
		p := append(make(api.Poly, degree), wide.Of(-1))
		p[0] = power(most(degree), 0)
		expectErrors(t, p, api.ErrFull)
	}
}
