package poly_test

import (
	"math/big"
	"slices"
	"testing"

	"skylantern/api"
	"skylantern/poly"
	"skylantern/wide"
)

// divided returns the quotient and the remainder of the division by a polynomial that is not zero, with rational coefficients.
func divided(p, q bigs) (quotient, rest []*big.Rat) {
	for _, n := range p {
		rest = append(rest, new(big.Rat).SetInt(n))
	}
	lead := new(big.Rat).SetInt(q[len(q)-1])
	quotient = make([]*big.Rat, max(len(p)-len(q)+1, 0))
	for i := len(quotient) - 1; i >= 0; i-- {
		top := new(big.Rat).Quo(rest[i+len(q)-1], lead)
		for j, n := range q {
			rest[i+j].Sub(rest[i+j], new(big.Rat).Mul(top, new(big.Rat).SetInt(n)))
		}
		quotient[i] = top
	}
	return quotient, rest
}

// whole returns rational coefficients as integers, and whether all of them are.
func whole(l []*big.Rat) (bigs, bool) {
	out := make(bigs, len(l))
	for i, r := range l {
		if !r.IsInt() {
			return nil, false
		}
		out[i] = r.Num()
	}
	return trim(out), true
}

// divides reports whether a polynomial is a multiple of another one, which is not the zero polynomial, with integer coefficients.
func divides(q, p bigs) bool {
	lead, rest := q[len(q)-1], new(big.Int)
	for len(p) >= len(q) {
		top := new(big.Int)
		if top.QuoRem(p[len(p)-1], lead, rest); rest.Sign() != 0 {
			return false
		}
		p = sum(p, product(append(zeros(len(p)-len(q)), top), q), -1)
	}
	return len(p) == 0
}

// content returns the greatest common divisor of some integers.
func content(p bigs) *big.Int {
	out := new(big.Int)
	for _, n := range p {
		out.GCD(nil, nil, out, new(big.Int).Abs(n))
	}
	return out
}

// primitive returns a polynomial divided by its content.
func primitive(p bigs) bigs {
	out, by := make(bigs, len(p)), content(p)
	for i, n := range p {
		out[i] = new(big.Int).Quo(n, by)
	}
	return out
}

// clear returns rational coefficients times a positive number, as a primitive polynomial.
func clear(l []*big.Rat) bigs {
	common := big.NewInt(1)
	for _, r := range l {
		common.Mul(common, r.Denom())
	}
	out := make(bigs, len(l))
	for i, r := range l {
		out[i] = new(big.Int).Quo(new(big.Int).Mul(r.Num(), common), r.Denom())
	}
	return primitive(trim(out))
}

// common returns the greatest common divisor of two polynomials, by Euclid's algorithm with rational coefficients.
func common(p, q bigs) bigs {
	p, q = primitive(p), primitive(q)
	for len(q) > 0 {
		_, rest := divided(p, q)
		p, q = q, clear(rest)
	}
	if len(p) > 0 && p[len(p)-1].Sign() < 0 {
		for _, n := range p {
			n.Neg(n)
		}
	}
	return p
}

// P2.6

func TestContentPrimitive(t *testing.T) {
	all := append(samples(), ints(6, -4), ints(-6, -4), ints(-6, 0, -9), ints(-5), ints(0, 0, 12), full(24, wide.MaxBits, 3), api.Poly{below(wide.MaxBits), wide.Of(0), negative(below(wide.MaxBits / 2))})
	for _, p := range samples() {
		by, _ := poly.Scale(p, negative(below(77)))
		all = append(all, by)
	}
	for _, p := range all {
		c, e := poly.Content(p)
		if want := content(bigsOf(p)); c != wideOf(want) || e != api.OK {
			t.Fatal("Content", short(p), c, e)
		}
		q, e := poly.Primitive(p)
		expect(t, "Primitive "+short(p), q, e, primitive(bigsOf(p)))
	}
}

func TestContentPrimitiveExamples(t *testing.T) {
	for i, c := range []struct {
		p, primitive api.Poly
		content      int
	}{
		{ints(6, -4), ints(3, -2), 2},
		{ints(-6, -4), ints(-3, -2), 2},
		{ints(-6, 0, -9), ints(-2, 0, -3), 3},
		{ints(-5), ints(-1), 5},
		{ints(0, 7), ints(0, 1), 7},
		{ints(3, 5), ints(3, 5), 1},
		{nil, nil, 0},
	} {
		if n, e := poly.Content(c.p); n != wide.Of(c.content) || e != api.OK {
			t.Error("Content", i, n, e)
		}
		if q, e := poly.Primitive(c.p); !slices.Equal(q, c.primitive) || e != api.OK {
			t.Error("Primitive", i, short(q), e)
		}
	}
	for _, bad := range invalid() {
		n, e := poly.Content(bad)
		expectNone(t, "Content", n, e, api.ErrArg)
		q, e := poly.Primitive(bad)
		expectError(t, "Primitive", q, e, api.ErrArg)
	}
}

// P2.7

// expectRest fails unless Rest returns the pseudo-remainder.
func expectRest(t *testing.T, p, q api.Poly) {
	t.Helper()
	name := "Rest " + short(p) + " " + short(q)
	r, e := poly.Rest(p, q)
	if len(p) < len(q) {
		expect(t, name, r, e, bigsOf(p))
		return
	}
	if e != api.OK || !poly.Valid(r) || len(r) >= len(q) {
		t.Fatal(name, short(r), e)
	}
	factor := exp(bigOf(q[len(q)-1]), len(p)-len(q)+1)
	if !divides(bigsOf(q), sum(product(bigs{factor}, bigsOf(p)), bigsOf(r), -1)) {
		t.Fatal(name, short(r))
	}
}

// expectDivide fails unless Divide returns the quotient, or ErrCheck if there is none.
func expectDivide(t *testing.T, p, q api.Poly) {
	t.Helper()
	d, e := poly.Divide(p, q)
	quotient, rest := divided(bigsOf(p), bigsOf(q))
	left, _ := whole(rest)
	want, ok := whole(quotient)
	if !ok || len(left) > 0 || len(p) > 0 && len(p) < len(q) {
		expectError(t, "Divide "+short(p)+" "+short(q), d, e, api.ErrCheck)
		return
	}
	expect(t, "Divide "+short(p)+" "+short(q), d, e, want)
}

// expectGCD fails unless GCD returns the greatest common divisor, in both orders.
func expectGCD(t *testing.T, p, q api.Poly) {
	t.Helper()
	want := common(bigsOf(p), bigsOf(q))
	for _, c := range [][2]api.Poly{{p, q}, {q, p}} {
		g, e := poly.GCD(c[0], c[1])
		expect(t, "GCD "+short(c[0])+" "+short(c[1]), g, e, want)
	}
}

// fitsGCD reports whether GCD must not return ErrFull.
func fitsGCD(p, q api.Poly) bool {
	d, b := max(len(p), len(q))+2, 0
	for _, a := range slices.Concat(p, q) {
		b = max(b, wide.Len(a))
	}
	return len(p) == 0 || len(q) == 0 || d*d*(b+8) <= wide.MaxBits
}

func TestDivisions(t *testing.T) {
	pairs(func(p, q api.Poly) {
		if len(q) > 0 {
			expectRest(t, p, q)
			expectDivide(t, p, q)
		}
		if !fitsGCD(p, q) {
			g, e := poly.GCD(p, q)
			expectError(t, "GCD "+short(p)+" "+short(q), g, e, api.ErrFull)
		} else if len(p) <= len(q) {
			expectGCD(t, p, q)
		}
	})
}

func TestDivisionsOfProducts(t *testing.T) {
	r := source()
	for range 300 {
		a, b, c := randomPoly(r, r.Intn(5), 1+r.Intn(20)), randomPoly(r, r.Intn(5), 1+r.Intn(20)), randomPoly(r, r.Intn(5), 1+r.Intn(20))
		p, q := polyOf(product(bigsOf(a), bigsOf(b))), polyOf(product(bigsOf(b), bigsOf(c)))
		expectRest(t, p, q)
		expectDivide(t, p, b)
		expectDivide(t, p, q)
		expectDivide(t, polyOf(sum(bigsOf(p), bigsOf(ints(1)), 1)), b)
		expectGCD(t, p, q)
		expectGCD(t, p, p)
		expectGCD(t, p, b)
	}
}

func TestDivisionExamples(t *testing.T) {
	for i, c := range []struct{ p, q, rest, gcd api.Poly }{
		{ints(1, 0, 0, 1), ints(1, 2), ints(7), ints(1)},
		{ints(-1, 0, 0, 1), ints(1, 2), ints(-9), ints(1)},
		{ints(-1, 0, 1), ints(2, 4, 2), ints(-4, -4), ints(1, 1)},
		{ints(1, 1), ints(1, 2, 1), ints(1, 1), ints(1, 1)},
		{ints(2), ints(4), nil, ints(1)},
		{ints(0, -2), ints(0, 0, 4), ints(0, -2), ints(0, 1)},
		{ints(0, 0, 3), ints(0, 3), nil, ints(0, 1)},
		{ints(0, 0, 1), ints(1, -2), ints(1), ints(1)},
		{ints(5, 0, 1), ints(0, -3), ints(45), ints(1)},
		{nil, ints(-3), nil, ints(1)},
		{nil, ints(-2, -4), nil, ints(1, 2)},
	} {
		if p, e := poly.Rest(c.p, c.q); !slices.Equal(p, c.rest) || e != api.OK {
			t.Error("Rest", i, short(p), e)
		}
		for _, o := range [][2]api.Poly{{c.p, c.q}, {c.q, c.p}} {
			if p, e := poly.GCD(o[0], o[1]); !slices.Equal(p, c.gcd) || e != api.OK {
				t.Error("GCD", i, short(p), e)
			}
		}
	}
	if p, e := poly.GCD(nil, nil); len(p) != 0 || e != api.OK {
		t.Error("GCD", short(p), e)
	}
}

func TestDivideExamples(t *testing.T) {
	for i, c := range []struct {
		p, q, want api.Poly
		e          api.Errno
	}{
		{ints(-1, 0, 1), ints(1, 1), ints(-1, 1), api.OK},
		{ints(1, 0, 0, 1), ints(1, 1), ints(1, -1, 1), api.OK},
		{ints(1, 0, 1), ints(1, 1), nil, api.ErrCheck},
		{ints(1, 1), ints(2), nil, api.ErrCheck},
		{ints(2, 1), ints(2), nil, api.ErrCheck},
		{ints(1, 2), ints(2), nil, api.ErrCheck},
		{ints(1), ints(0, 1), nil, api.ErrCheck},
		{ints(1, 1), ints(1, 1, 1), nil, api.ErrCheck},
		{ints(1, 2), ints(2, 4), nil, api.ErrCheck},
		{ints(2, 4), ints(1, 2), ints(2), api.OK},
		{ints(6, -4), ints(-2), ints(-3, 2), api.OK},
		{ints(7), ints(-7), ints(-1), api.OK},
		{ints(1), ints(2), nil, api.ErrCheck},
		{ints(0, 0, 6), ints(0, 3), ints(0, 2), api.OK},
		{ints(0, 1, 6), ints(0, 3), nil, api.ErrCheck},
		{ints(1, 0, 6), ints(0, 3), nil, api.ErrCheck},
		{nil, ints(0, 3), nil, api.OK},
		{nil, ints(4), nil, api.OK},
	} {
		if p, e := poly.Divide(c.p, c.q); !slices.Equal(p, c.want) || e != c.e {
			t.Error(i, short(p), e)
		}
	}
}

// shapes returns pairs of a degree and bits for which Rest and Divide are just at the limit.
func shapes() [][4]int {
	var all [][4]int
	for _, c := range [][2]int{{24, 1}, {24, 0}, {24, 23}, {24, 24}, {24, 12}, {1, 1}, {1, 0}, {0, 0}, {5, 2}} {
		steps := c[0] - c[1] + 1
		for _, bits := range []int{1, 2, wide.MaxBits/steps - 100, (wide.MaxBits-1)/steps - 1} {
			all = append(all, [4]int{c[0], wide.MaxBits - steps*(bits+1), c[1], bits})
		}
	}
	return all
}

func TestRestAtTheLimit(t *testing.T) {
	for _, s := range shapes() {
		for _, signs := range [][2]int{{0, 1}, {2, 2}, {3, 0}} {
			p, q := full(s[0], s[1], signs[0]), full(s[2], s[3], signs[1])
			expectRest(t, p, q)
		}
		if s[1] < wide.MaxBits {
			p, e := poly.Rest(full(s[0], s[1]+1, 0), full(s[2], s[3], 0))
			expectError(t, "Rest", p, e, api.ErrFull)
			p, e = poly.Divide(full(s[0], s[1]+1, 0), full(s[2], s[3], 0))
			expectError(t, "Divide", p, e, api.ErrFull)
		}
	}
}

func TestDivideAtTheLimit(t *testing.T) {
	r := source()
	for _, s := range shapes() {
		q := randomPoly(r, s[2], s[3])
		q[s[2]] = below(s[3])
		if free := s[1] - s[3] - 5; free > 0 {
			quotient := randomPoly(r, s[0]-s[2], free)
			p := polyOf(product(bigsOf(quotient), bigsOf(q)))
			d, e := poly.Divide(p, q)
			expect(t, "Divide", d, e, bigsOf(quotient))
		}
		// There is no quotient of these, and the way to that must not be too long.
		for _, step := range []int{0, 1, 2} {
			p := full(s[0], s[1], step)
			p[0] = wide.Of(0)
			if s[0] == 0 {
				continue
			}
			q := full(s[2], s[3], step)
			if d, e := poly.Divide(p, q); e != api.ErrCheck && e != api.OK || e == api.OK && !slices.Equal(polyOf(product(bigsOf(d), bigsOf(q))), p) {
				t.Error("Divide", s, step, e)
			}
		}
	}
}

// Of polynomials of a smaller degree Rest and Divide need no bits.
func TestDivisionsBySomethingLonger(t *testing.T) {
	p, q := full(23, wide.MaxBits, 2), full(24, wide.MaxBits, 0)
	r, e := poly.Rest(p, q)
	expect(t, "Rest", r, e, bigsOf(p))
	d, e := poly.Divide(p, q)
	expectError(t, "Divide", d, e, api.ErrCheck)
	r, e = poly.Rest(nil, q)
	expect(t, "Rest", r, e, nil)
	d, e = poly.Divide(nil, q)
	expect(t, "Divide", d, e, nil)
}

func TestGCDAtTheLimit(t *testing.T) {
	// The greatest bits for some degrees.
	limits := [][2]int{{0, 7273}, {1, 4088}, {2, 2613}, {5, 1016}, {13, 248}, {24, 81}}
	r := source()
	for _, l := range limits {
		degree, bits := l[0], l[1]
		for other := range degree + 1 {
			expectGCD(t, randomPoly(r, degree, bits), randomPoly(r, other, bits))
			expectGCD(t, full(degree, bits, 2), full(other, bits, 3))
			a := randomPoly(r, other/2, bits/2-3)
			b, c := randomPoly(r, other/2, bits/2-3), randomPoly(r, (degree-other)/2, bits/2-3)
			expectGCD(t, polyOf(product(bigsOf(a), bigsOf(b))), polyOf(product(bigsOf(c), bigsOf(b))))
		}
		one, large := full(degree, 1, 0), full(0, bits+1, 0)
		for _, c := range [][2]api.Poly{{one, large}, {large, one}, {full(degree, bits+1, 0), ints(1)}, {ints(1), full(degree, bits+1, 1)}} {
			g, e := poly.GCD(c[0], c[1])
			expectError(t, "GCD", g, e, api.ErrFull)
		}
	}
}

// Where many powers are missing, the degrees of the rests fall by more than 1, and the rests are longest.
func TestGCDWithGaps(t *testing.T) {
	r := source()
	for range 60 {
		p, q := make(api.Poly, 25), make(api.Poly, 1+r.Intn(24))
		for _, l := range []api.Poly{p, q} {
			for range 2 {
				l[r.Intn(len(l))] = randomWide(r, 81)
			}
			l[len(l)-1] = below(81)
		}
		expectGCD(t, p, q)
	}
}

func TestGCDWithZero(t *testing.T) {
	long := full(24, wide.MaxBits, 1)
	for _, c := range [][2]api.Poly{{long, nil}, {nil, long}} {
		g, e := poly.GCD(c[0], c[1])
		expect(t, "GCD", g, e, bigsOf(full(24, 1, 0)))
	}
}

func TestDivisionErrors(t *testing.T) {
	good := full(24, wide.MaxBits, 0)
	ops := []func(p, q api.Poly) (api.Poly, api.Errno){poly.Rest, poly.Divide, poly.GCD}
	for _, op := range ops {
		for _, bad := range invalid() {
			for _, c := range [][2]api.Poly{{bad, good}, {good, bad}, {bad, bad}, {bad, nil}, {nil, bad}} {
				p, e := op(c[0], c[1])
				expectError(t, "of invalid polynomials", p, e, api.ErrArg)
			}
		}
	}
	for _, op := range ops[:2] {
		for _, p := range []api.Poly{nil, {}, ints(1), good} {
			d, e := op(p, nil)
			expectError(t, "by zero", d, e, api.ErrRange)
		}
	}
	p, e := poly.Divide(full(1, wide.MaxBits, 0), ints(0, 2))
	expectError(t, "Divide", p, e, api.ErrFull)
}
