package poly_test

import (
	"math/rand"
	"slices"
	"testing"

	"skylantern/api"
	"skylantern/poly"
	"skylantern/wide"
)

// must returns a function that gives the result of an operation, which must have no error.
func must[A, B, R any](t *testing.T, op func(a A, b B) (R, api.Errno)) func(a A, b B) R {
	return func(a A, b B) R {
		t.Helper()
		result, e := op(a, b)
		if e != api.OK {
			t.Fatal(a, b, e)
		}
		return result
	}
}

// triples calls a function with many polynomials that are small enough for products of them.
func triples(do func(p, q, r api.Poly)) {
	s := source()
	some := func() api.Poly { return randomPoly(s, s.Intn(8)-1, 1+s.Intn(100)) }
	for range 300 {
		do(some(), some(), some())
	}
}

// P2.8

func TestSumsAndProducts(t *testing.T) {
	add, sub, mul, scale := must(t, poly.Add), must(t, poly.Sub), must(t, poly.Mul), must(t, poly.Scale)
	triples(func(p, q, r api.Poly) {
		if !poly.Equal(add(p, q), add(q, p)) || !poly.Equal(mul(p, q), mul(q, p)) {
			t.Fatal("order of two", short(p), short(q))
		}
		if !poly.Equal(add(add(p, q), r), add(p, add(q, r))) || !poly.Equal(mul(mul(p, q), r), mul(p, mul(q, r))) {
			t.Fatal("order of three", short(p), short(q), short(r))
		}
		if !poly.Equal(mul(p, add(q, r)), add(mul(p, q), mul(p, r))) {
			t.Fatal("product of a sum", short(p), short(q), short(r))
		}
		if !poly.Equal(sub(add(p, q), q), p) || len(sub(p, p)) != 0 {
			t.Fatal("Sub of Add", short(p), short(q))
		}
		if !poly.Equal(sub(p, q), add(p, scale(q, wide.Of(-1)))) || !poly.Equal(scale(p, wide.Of(3)), mul(p, ints(3))) {
			t.Fatal("multiples", short(p), short(q))
		}
	})
}

func TestValuesOfSumsAndProducts(t *testing.T) {
	add, mul, value := must(t, poly.Add), must(t, poly.Mul), must(t, poly.Value)
	eval, sign := must(t, poly.Eval), must(t, poly.SignAt)
	plus, times := must(t, wide.AddRatio), must(t, wide.MulRatio)
	r := source()
	triples(func(p, q, _ api.Poly) {
		at := api.Ratio{Num: randomWide(r, 50), Den: below(1 + r.Intn(50))}
		x, y := value(p, at), value(q, at)
		if value(add(p, q), at) != plus(x, y) || value(mul(p, q), at) != times(x, y) {
			t.Fatal(short(p), short(q), at)
		}
		if sign(p, at) != wide.Sign(x.Num) || sign(mul(p, q), at) != sign(p, at)*sign(q, at) {
			t.Fatal("SignAt", short(p), short(q), at)
		}
		product, _ := wide.Mul(eval(p, at), eval(q, at))
		if eval(mul(p, q), at) != product {
			t.Fatal("Eval", short(p), short(q), at)
		}
	})
}

func TestDerivativeOfAProduct(t *testing.T) {
	add, mul := must(t, poly.Add), must(t, poly.Mul)
	derive := func(p api.Poly) api.Poly {
		d, e := poly.Derive(p)
		if e != api.OK {
			t.Fatal(e)
		}
		return d
	}
	triples(func(p, q, _ api.Poly) {
		if !poly.Equal(derive(mul(p, q)), add(mul(derive(p), q), mul(p, derive(q)))) {
			t.Fatal(short(p), short(q))
		}
	})
}

func TestComposeTwice(t *testing.T) {
	add, mul := must(t, poly.Add), must(t, poly.Mul)
	compose := func(p api.Poly, a, b, den int) api.Poly {
		c, e := poly.Compose(p, wide.Of(a), wide.Of(b), wide.Of(den))
		if e != api.OK {
			t.Fatal(e)
		}
		return c
	}
	triples(func(p, q, _ api.Poly) {
		if !poly.Equal(compose(p, 0, 1, 1), p) || !poly.Equal(compose(compose(p, 5, -1, 1), 5, -1, 1), p) {
			t.Fatal(short(p))
		}
		if !poly.Equal(mul(compose(p, 3, 2, 7), compose(q, 3, 2, 7)), compose(mul(p, q), 3, 2, 7)) {
			t.Fatal("of a product", short(p), short(q))
		}
		if !poly.Equal(add(compose(p, -2, 9, 1), compose(q, -2, 9, 1)), compose(add(p, q), -2, 9, 1)) {
			t.Fatal("of a sum", short(p), short(q))
		}
	})
}

func TestDivisionsAndProducts(t *testing.T) {
	mul, divide, gcd, scale := must(t, poly.Mul), must(t, poly.Divide), must(t, poly.GCD), must(t, poly.Scale)
	triples(func(p, q, r api.Poly) {
		if len(q) > 0 && !poly.Equal(divide(mul(p, q), q), p) {
			t.Fatal("Divide of Mul", short(p), short(q))
		}
		if len(p) == 0 || len(q) == 0 || len(r) == 0 {
			return
		}
		p, q = mul(p, r), mul(q, r)
		g := gcd(p, q)
		for _, x := range []api.Poly{p, q} {
			// The leading coefficient of g is an integer for which a product is surely a multiple of g.
			factor := wide.Of(1)
			for range x {
				factor, _ = wide.Mul(factor, g[len(g)-1])
			}
			if got := divide(scale(x, factor), g); !poly.Equal(mul(got, g), scale(x, factor)) {
				t.Fatal("GCD does not divide", short(x), short(g))
			}
		}
		if !poly.Equal(gcd(scale(p, wide.Of(-6)), q), g) || !poly.Equal(gcd(p, scale(q, wide.Of(35))), g) || !poly.Equal(gcd(q, p), g) {
			t.Fatal("GCD of multiples", short(p), short(q))
		}
		if c, e := poly.Content(g); c != wide.Of(1) || e != api.OK || wide.Sign(g[len(g)-1]) != 1 || len(g) < len(r) {
			t.Fatal("GCD", short(g))
		}
	})
}

func TestContentTimesPrimitive(t *testing.T) {
	for _, p := range samples() {
		c, e := poly.Content(p)
		q, f := poly.Primitive(p)
		if e != api.OK || f != api.OK || !poly.Equal(must(t, poly.Scale)(q, c), p) {
			t.Error(short(p), e, f)
		}
	}
}

// P1, and the rules of DOC.md about arguments and results.

// calls calls all functions with polynomials as results.
func calls(p, q api.Poly, a, b, den api.Wide, do func(name string, p api.Poly, e api.Errno)) {
	call := func(name string) func(p api.Poly, e api.Errno) {
		return func(p api.Poly, e api.Errno) { do(name, p, e) }
	}
	call("Add")(poly.Add(p, q))
	call("Sub")(poly.Sub(p, q))
	call("Mul")(poly.Mul(p, q))
	call("Scale")(poly.Scale(p, a))
	call("Derive")(poly.Derive(p))
	call("Compose")(poly.Compose(p, a, b, den))
	call("Primitive")(poly.Primitive(p))
	call("Rest")(poly.Rest(p, q))
	call("Divide")(poly.Divide(p, q))
	call("GCD")(poly.GCD(p, q))
}

func TestNothingIsSharedOrModified(t *testing.T) {
	lists := []api.Poly{nil, ints(1), ints(-3), ints(0, 1), ints(3, 1), ints(2, 4, 6), ints(1, 1, 1, 1)}
	for _, x := range lists {
		for _, y := range lists {
			// Room behind the coefficients must not be used either.
			p, q := append(slices.Clone(x), ints(7, 7, 7)...), append(slices.Clone(y), ints(7, 7, 7)...)
			cut := func(p api.Poly) api.Poly { return p[:len(p)-3] }
			calls(cut(p), cut(q), wide.Of(1), wide.Of(1), wide.Of(1), func(name string, r api.Poly, _ api.Errno) {
				for i := range r[:cap(r)] {
					r[:cap(r)][i] = wide.Of(99)
				}
				if !slices.Equal(p, append(slices.Clone(x), ints(7, 7, 7)...)) || !slices.Equal(q, append(slices.Clone(y), ints(7, 7, 7)...)) {
					t.Fatal(name, x, y)
				}
			})
		}
	}
	numbers := []int{1, 2, 0}
	if p, _ := poly.Of(numbers...); len(p) != 2 || !slices.Equal(numbers, []int{1, 2, 0}) {
		t.Error("Of")
	}
}

func TestNoPanic(t *testing.T) {
	r := rand.New(rand.NewSource(2))
	for range 5000 {
		p, q := anyPoly(r), anyPoly(r)
		a, b, den := anyWide(r), anyWide(r), anyWide(r)
		calls(p, q, a, b, den, func(name string, s api.Poly, e api.Errno) {
			if !poly.Valid(s) || e != api.OK && len(s) > 0 {
				t.Fatal(name, "gives a polynomial that is not valid", e)
			}
			if e == api.OK && !poly.Valid(p) || e == api.ErrArg && poly.Valid(p) && poly.Valid(q) && wide.Valid(a) && wide.Valid(b) && wide.Valid(den) {
				t.Fatal(name, e)
			}
		})
		at := api.Ratio{Num: a, Den: den}
		bad := !poly.Valid(p) || !wide.ValidRatio(at)
		v, e := poly.Eval(p, at)
		x, f := poly.Value(p, at)
		s, g := poly.SignAt(p, at)
		if (e == api.ErrArg) != bad || f != e || g != e || !wide.Valid(v) || wide.ValidRatio(x) != (e == api.OK) || s < -1 || s > 1 {
			t.Fatal("values", e, f, g)
		}
		_, e = poly.Content(p)
		_, f = poly.Degree(p)
		_, g = poly.Bits(p)
		if e != f || f != g || (e == api.OK) != poly.Valid(p) {
			t.Fatal("Content, Degree, Bits", e, f, g)
		}
	}
}

// anyWide returns an integer that need not be valid.
func anyWide(r *rand.Rand) api.Wide {
	if r.Intn(30) > 0 {
		return randomWide(r, 1+r.Intn(80))
	}
	mag := make([]byte, r.Intn(4))
	for i := range mag {
		mag[i] = byte(r.Intn(2))
	}
	return api.Wide{Neg: r.Intn(2) == 0, Mag: string(mag)}
}

// anyPoly returns a polynomial that need not be valid.
func anyPoly(r *rand.Rand) api.Poly {
	p := make(api.Poly, r.Intn(10))
	if r.Intn(20) == 0 {
		p = make(api.Poly, r.Intn(30))
	}
	for i := range p {
		p[i] = anyWide(r)
	}
	return p
}
