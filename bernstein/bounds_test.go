package bernstein_test

import (
	"math"
	"testing"

	"skylantern/api"
	"skylantern/bernstein"
	"skylantern/wide"
)

// P5.3

// expectBounds fails unless Bounds returns the extreme Bernstein coefficients of a form.
func expectBounds(t *testing.T, form []api.Wide) {
	t.Helper()
	least, greatest, e := bernstein.Bounds(form)
	low, high := extremesOf(bigsOf(form))
	expectRatios(t, "Bounds "+short(form), least, greatest, e, low, high)
}

func TestBounds(t *testing.T) {
	for _, form := range forms() {
		expectBounds(t, form)
	}
}

func TestBoundsExamples(t *testing.T) {
	for _, c := range []struct {
		form      []api.Wide
		low, high api.Ratio
	}{
		{ints(0, 2, 0), ratio(0, 1), ratio(1, 1)},
		{ints(1, -3, 2), ratio(-3, 2), ratio(2, 1)},
		{ints(1, 1, 1), ratio(1, 2), ratio(1, 1)},
		{ints(-1, 0, 0, -2), ratio(-2, 1), ratio(0, 1)},
		{ints(2, 4, -4, 3), ratio(-4, 3), ratio(3, 1)},
		{ints(-5), ratio(-5, 1), ratio(-5, 1)},
		{ints(0, 0), ratio(0, 1), ratio(0, 1)},
	} {
		low, high, e := bernstein.Bounds(c.form)
		if low != c.low || high != c.high || e != api.OK {
			t.Error("Bounds", short(c.form), low, high, e)
		}
	}
}

func TestBoundsAtTheLimit(t *testing.T) {
	const most = wide.MaxBits - 30
	for _, length := range []int{1, 2, 12, 25} {
		for _, as := range patterns() {
			expectBounds(t, full(length, most, as))
		}
		for _, at := range []int{0, length / 2, length - 1} {
			expectBounds(t, alone(length, at, most))
		}
	}
}

// P5.4

// expectEnclose fails unless Enclose returns the extreme Bernstein coefficients of all pieces.
func expectEnclose(t *testing.T, p api.Poly, depth int) {
	t.Helper()
	least, greatest, e := bernstein.Enclose(p, depth)
	low, high := enclosureOf(p, depth)
	expectRatios(t, "Enclose "+short(p), least, greatest, e, low, high)
}

func TestEnclose(t *testing.T) {
	for _, p := range samples() {
		for depth := range 5 {
			expectEnclose(t, p, depth)
		}
		if len(p) < 8 {
			expectEnclose(t, p, bernstein.MaxDepth)
		}
	}
}

func TestEncloseExamples(t *testing.T) {
	for _, c := range []struct {
		p         api.Poly
		depth     int
		low, high api.Ratio
	}{
		{ints(0, 1, -1), 0, ratio(0, 1), ratio(1, 2)},
		{ints(0, 1, -1), 1, ratio(0, 1), ratio(1, 4)},
		{ints(0, 1, -1), 8, ratio(0, 1), ratio(1, 4)},
		{ints(1, -4, 4), 0, ratio(-1, 1), ratio(1, 1)},
		{ints(1, -4, 4), 1, ratio(0, 1), ratio(1, 1)},
		{ints(0, -1, 1), 2, ratio(-1, 4), ratio(0, 1)},
		{ints(-6, 4), 3, ratio(-6, 1), ratio(-2, 1)},
		{ints(-3), 8, ratio(-3, 1), ratio(-3, 1)},
		{nil, 0, ratio(0, 1), ratio(0, 1)},
		{nil, 8, ratio(0, 1), ratio(0, 1)},
	} {
		low, high, e := bernstein.Enclose(c.p, c.depth)
		if low != c.low || high != c.high || e != api.OK {
			t.Error("Enclose", short(c.p), c.depth, low, high, e)
		}
	}
}

// P5.5

// expectPositive fails unless Positive reports whether a polynomial is shown to be at least 0.
func expectPositive(t *testing.T, p api.Poly, depth int) {
	t.Helper()
	is, e := bernstein.Positive(p, depth)
	if is != isShown(p, depth, 0, 0) || e != api.OK {
		t.Fatal("Positive", short(p), depth, is, e)
	}
}

// nearZero returns polynomials whose least value from 0 to 1 is 0 or near it, so that it depends on the depth whether they are shown to be at least 0.
func nearZero() []api.Poly {
	var all []api.Poly
	for _, roots := range [][2]api.Poly{{ints(-1, 2), ints(1)}, {ints(-1, 3), ints(1)}, {ints(-3, 8), ints(1)}, {ints(-5, 32), ints(1)}, {ints(-1, 4), ints(-3, 4)}, {ints(0, 1), ints(-5, 8)}, {ints(-9, 16), ints(-21, 64)}, {ints(-101, 128), ints(-1, 2)}, {ints(-77, 256), ints(-1, 1)}, {ints(-1, 512), ints(1)}, {ints(-2, 7), ints(-5, 7)}, {ints(-77, 256), ints(-200, 255)}} {
		p := product(roots[0], roots[0], roots[1], roots[1])
		for _, more := range []int{-1, 0, 1, 7, 60, 1000} {
			q := append(api.Poly{}, p...)
			q[0], _ = wide.Add(q[0], wide.Of(more))
			all = append(all, trimmed(q))
		}
	}
	return all
}

func TestPositive(t *testing.T) {
	byDepth := make([]int, bernstein.MaxDepth+2)
	for _, p := range append(nearZero(), samples()...) {
		first := bernstein.MaxDepth + 1
		for depth := bernstein.MaxDepth; depth >= 0; depth-- {
			expectPositive(t, p, depth)
			if is, _ := bernstein.Positive(p, depth); is {
				first = depth
			}
		}
		byDepth[first]++
	}
	for depth, count := range byDepth {
		if count == 0 {
			t.Error("no polynomial is shown first by the depth", depth)
		}
	}
}

func TestPositiveExamples(t *testing.T) {
	for _, c := range []struct {
		p     api.Poly
		depth int
		want  bool
	}{
		{ints(1, -3, 3), 0, false},
		{ints(1, -3, 3), 1, true},
		{ints(1, -4, 4), 0, false},
		{ints(1, -4, 4), 1, true},
		{ints(1, -4, 4), 8, true},
		{ints(1, -6, 9), 8, false},
		{ints(-1), 0, false},
		{ints(-1), 8, false},
		{ints(0, 1), 0, true},
		{ints(0, -1), 8, false},
		{ints(1, -2), 8, false},
		{ints(-1, 2), 8, false},
		{ints(4), 0, true},
		{nil, 0, true},
		{nil, 8, true},
	} {
		if is, e := bernstein.Positive(c.p, c.depth); is != c.want || e != api.OK {
			t.Error("Positive", short(c.p), c.depth, is, e)
		}
	}
}

// The errors of P5.4 and P5.5

func TestErrorsOfDepths(t *testing.T) {
	for _, depth := range []int{math.MinInt, -1, bernstein.MaxDepth + 1, math.MaxInt} {
		for _, p := range []api.Poly{nil, ints(1), full(25, wide.MaxBits, ones)} {
			expectDepthErrors(t, p, depth, api.ErrArg)
		}
	}
	for _, p := range notPolys() {
		for _, depth := range []int{-1, 0, bernstein.MaxDepth} {
			expectDepthErrors(t, p, depth, api.ErrArg)
		}
	}
}

func TestDepthsAtTheLimit(t *testing.T) {
	for _, c := range [][2]int{{0, 0}, {0, 8}, {1, 0}, {1, 8}, {5, 3}, {24, 0}, {24, 1}, {24, 2}} {
		degree, depth := c[0], c[1]
		most := wide.MaxBits - 60 - degree*depth
		for _, as := range patterns() {
			expectEnclose(t, full(degree+1, most, as), depth)
			expectPositive(t, full(degree+1, most, as), depth)
			expectDepthErrors(t, full(degree+1, most+1, as), depth, api.ErrFull)
		}
		expectEnclose(t, alone(degree+1, degree, most), depth)
		expectDepthErrors(t, alone(degree+1, degree, most+1), depth, api.ErrFull)
	}
	expectEnclose(t, full(25, wide.MaxBits-60-24*8, turns), 8)
}
