package sign_test

import (
	"math/big"
	"slices"
	"testing"

	"skylantern/api"
	"skylantern/poly"
	"skylantern/sign"
	"skylantern/sturm"
	"skylantern/wide"
)

// The tests of P4.4.

func TestFloorExamples(t *testing.T) {
	for i, c := range []struct {
		p    api.Poly
		want int
	}{
		{nil, 0},
		{ints(7), 7},
		{ints(-7), -7},
		{ints(0, -1, 1), -1},
		{ints(3, -1), 2},
		{ints(3, 1), 3},
		{ints(-3, 5), -3},
		{ints(0, -100, 100), -25},
		{ints(0, -101, 101), -26},
		{ints(0, -99, 99), -25},
		{ints(0, -6, 0, 1), -5},
		{ints(0, 0, 1), 0},
		{ints(0, 0, -1), -1},
		// The smallest value is an integer: at 1/3, at the root of 1/2, at 1.
		{ints(1, -6, 9), 0},
		{ints(6, -6, 9), 5},
		{ints(1, 0, -4, 0, 4), 0},
		{ints(-1, 0, -4, 0, 4), -2},
		{ints(4, -2, -1), 1},
		// It is less than an integer by 1/9 and by 1/(4 * 9), and greater by 1/9.
		{ints(0, 4, -6), -2},
		{ints(0, -2, 9), -1},
		{ints(2, -6, 9), 1},
		{ints(5, -9, 9), 2},
		// It is smaller elsewhere.
		{ints(2, -1, 0, 0, -1), 0},
		{ints(0, 0, -50, 1, -7), -56},
	} {
		if m, e := sign.Floor(c.p); m != wide.Of(c.want) || e != api.OK {
			t.Error(i, m, e)
		}
	}
}

// expectFloor fails unless Floor returns the greatest integer m with the property that the polynomial minus m is nowhere negative from 0 to 1.
func expectFloor(t *testing.T, p api.Poly) {
	t.Helper()
	m, e := sign.Floor(p)
	next := wideOf(new(big.Int).Add(bigOf(m), big.NewInt(1)))
	if e != api.OK || !wide.Valid(m) || isNegative(minus(p, m), ratio(0, 1), ratio(1, 1)) || !isNegative(minus(p, next), ratio(0, 1), ratio(1, 1)) {
		t.Fatal("Floor", short(p), m, e)
	}
}

// fitsForFloor reports whether a polynomial fits with 8 bits more.
func fitsForFloor(p api.Poly) bool {
	q := slices.Clone(p)
	for i := range q {
		q[i], _ = wide.Shift(q[i], 8)
	}
	return sign.Fits(q)
}

func TestFloorSamples(t *testing.T) {
	r := source()
	for _, p := range samples() {
		for _, q := range []api.Poly{p, minus(p, randomWide(r, 20))} {
			if fitsForFloor(q) {
				expectFloor(t, q)
			}
		}
	}
	for range 300 {
		expectFloor(t, randomPoly(r, 2+r.Intn(4), 1+r.Intn(9), 1))
	}
}

func TestFloorOfTheLargestPolynomials(t *testing.T) {
	r := source()
	for degree := range poly.MaxDegree + 1 {
		bits := most(degree) - 8
		p := slices.Repeat(api.Poly{opposite(power(bits, -1))}, degree+1)
		expectFloor(t, p)
		for i := 0; i < len(p); i += 2 {
			p[i] = opposite(p[i])
		}
		if degree%8 < 3 || degree == 6 {
			expectFloor(t, p)
		}
		p[degree/2] = power(bits, 0)
		if m, e := sign.Floor(p); m != (api.Wide{}) || e != api.ErrFull {
			t.Error(degree, e)
		}
	}
	for _, degree := range []int{2, 14} {
		// A square, of a polynomial with the root 1/3: the smallest value is 0.
		q := product(linear(1, 3), randomPoly(r, degree/2-1, (most(degree)-12)/2-4, 1))
		p := product(q, q)
		for _, m := range []int{0, 1} {
			if f, e := sign.Floor(minus(p, wide.Of(m))); f != wide.Of(-m) || e != api.OK {
				t.Error(degree, m, f, e)
			}
		}
	}
}

// TestFloorWithNearRootsOfTheDerivative looks at derivatives with two roots that are nearer than 1 halved 1000 times.
func TestFloorWithNearRootsOfTheDerivative(t *testing.T) {
	for _, factor := range []int64{12, -12} {
		p := ints(5)
		for i, a := range thin(3, 610) {
			n := new(big.Int).Mul(bigOf(a), big.NewInt(factor))
			p = append(p, wideOf(n.Quo(n, big.NewInt(int64(i+1)))))
		}
		derivative, _ := poly.Derive(p)
		if _, e := sturm.Isolate(derivative, ratio(0, 1), ratio(1, 1), 0); e != api.ErrFull {
			t.Error("the roots are not near enough:", e)
		}
		expectFloor(t, p)
	}
}

func TestErrorsOfFloor(t *testing.T) {
	for i, p := range invalid() {
		if m, e := sign.Floor(p); m != (api.Wide{}) || e != api.ErrArg {
			t.Error(i, e)
		}
	}
	for degree := range poly.MaxDegree + 1 {
		for _, bits := range []int{most(degree) - 7, most(degree), most(degree) + 1, wide.MaxBits} {
			p := append(make(api.Poly, degree), power(bits-1, 0))
			if m, e := sign.Floor(p); m != (api.Wide{}) || e != api.ErrFull {
				t.Error(degree, bits, e)
			}
		}
	}
}
