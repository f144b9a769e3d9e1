package sign_test

import (
	"math/rand"
	"slices"
	"testing"

	"skylantern/api"
	"skylantern/poly"
	"skylantern/sign"
	"skylantern/wide"
)

// The tests of P4.7.

// mustNegative returns whether a polynomial is negative somewhere.
func mustNegative(t *testing.T, p api.Poly, a, b api.Ratio) bool {
	t.Helper()
	_, is, e := sign.Negative(p, a, b)
	if e != api.OK {
		t.Fatal("Negative", short(p), ratOf(a), ratOf(b), e)
	}
	return is
}

// TestAcceptedIsSo makes many lists for polynomials that need not be nowhere negative: what Check accepts is.
func TestAcceptedIsSo(t *testing.T) {
	r, ends := source(), someEnds()
	for _, p := range samples() {
		for range 30 {
			first := r.Intn(len(ends) - 1)
			last := first + 1 + r.Intn(len(ends)-1-first)
			l := randomParts(r, ends[first:last+1])
			if sign.Check(p, ends[first], ends[last], l) != api.OK {
				continue
			}
			for _, x := range ends[first : last+1] {
				if valueAt(ratsOf(p), ratOf(x)).Sign() < 0 {
					t.Fatal(short(p), ratOf(x))
				}
			}
			if mustNegative(t, p, ends[first], ends[last]) {
				t.Fatal(short(p), l)
			}
		}
	}
}

func TestSquaresAreNowhereNegative(t *testing.T) {
	ends := someEnds()
	for _, p := range samples() {
		square, e := poly.Mul(p, p)
		if e != api.OK || !sign.Fits(square) {
			continue
		}
		expectNegative(t, square, ends[0], ends[10], false)
		expectProof(t, square, ends[3], ends[9], false)
		expectFirst(t, square, ends[0], ends[10], 5)
	}
}

func TestIntervalsAddUp(t *testing.T) {
	ends := someEnds()
	for _, p := range samples() {
		for i, b := range ends[1:] {
			is := mustNegative(t, p, ends[0], ends[i]) || mustNegative(t, p, ends[i], b)
			if mustNegative(t, p, ends[0], b) != is {
				t.Fatal(short(p), ratOf(b))
			}
		}
	}
}

func TestFirstIsFirst(t *testing.T) {
	a, b := ratio(-2, 1), ratio(7, 3)
	for _, p := range samples() {
		for _, halvings := range []int{0, 2, 20} {
			i, e := sign.First(p, a, b, halvings)
			if e == api.ErrNone {
				continue
			}
			if e != api.OK || !mustNegative(t, p, i.From, i.To) || !lowest(i.From) || !lowest(i.To) {
				t.Fatal(short(p), i, e)
			}
			// Its From may be the very end of the negative numbers before only if it is a itself.
			if order(a, i.From) < 0 && mustNegative(t, p, a, i.From) {
				t.Fatal(short(p), i)
			}
		}
	}
}

func TestSumsAndProducts(t *testing.T) {
	a, b := ratio(-1, 3), ratio(3, 4)
	var all []api.Poly
	for _, p := range samples() {
		if !mustNegative(t, p, a, b) && len(p) < 7 {
			all = append(all, p)
		}
	}
	for i, p := range all {
		for _, q := range all[i:] {
			sum, _ := poly.Add(p, q)
			times, _ := poly.Mul(p, q)
			for _, s := range []api.Poly{sum, times} {
				if sign.Fits(s) {
					expectNegative(t, s, a, b, false)
				}
			}
		}
	}
}

// P1, and the rules of DOC.md about arguments and results.

func TestNothingIsSharedOrModified(t *testing.T) {
	zero, two := ratio(0, 1), ratio(2, 1)
	for _, p := range []api.Poly{ints(5), ints(-5), ints(0, 1), ints(3, -1), ints(1, -6, 9), ints(-1, 0, 1), ints(1, -3, 0, 1), product(linear(1, 3), linear(1, 3), linear(1, 3)), ints(0, 0, 2)} {
		// Room behind the coefficients must not be used either.
		given := append(slices.Clone(p), ints(7, 7, 7)...)
		kept := slices.Clone(given)
		q := given[:len(p)]
		o, e := sign.Odd(q)
		if want := slices.Clone(o); e == api.OK {
			for i := range o[:cap(o)] {
				o[:cap(o)][i] = wide.Of(99)
			}
			if again, e := sign.Odd(q); !slices.Equal(again, want) || e != api.OK {
				t.Error("a result depends on earlier calls", short(p))
			}
		}
		sign.Negative(q, zero, two)
		sign.First(q, zero, two, 5)
		sign.Floor(q)
		l, _ := sign.Prove(q, zero, two)
		proof := slices.Clone(l)
		spare := append(slices.Clone(l), plain(7, 1, 8, 1))
		sign.Check(q, zero, two, spare[:len(l)])
		if !slices.Equal(spare, append(slices.Clone(l), plain(7, 1, 8, 1))) {
			t.Error("a proof has been changed", short(p))
		}
		clear(l[:cap(l)])
		if again, _ := sign.Prove(q, zero, two); !slices.Equal(again, proof) {
			t.Error("a result depends on earlier calls", short(p))
		}
		if !slices.Equal(given, kept) {
			t.Error("an argument has been changed", short(p))
		}
	}
}

func TestNoPanic(t *testing.T) {
	r := rand.New(rand.NewSource(2))
	for range 4000 {
		p, a, b, halvings := anyPoly(r), anyRatio(r), anyRatio(r), r.Intn(30)-2
		bad := !poly.Valid(p)
		o, e := sign.Odd(p)
		m, f := sign.Floor(p)
		if (e == api.ErrArg) != bad || (e == api.ErrRange) != (len(p) == 0) || (len(o) > 0) != (e == api.OK) {
			t.Fatal("Odd", short(p), short(o), e)
		}
		if (f == api.ErrArg) != bad || !wide.Valid(m) || f != api.OK && m != (api.Wide{}) {
			t.Fatal("Floor", short(p), m, f)
		}
		bad = bad || !wide.ValidRatio(a) || !wide.ValidRatio(b)
		x, is, e := sign.Negative(p, a, b)
		if (e == api.ErrArg) != bad || e != api.OK && is || is != wide.ValidRatio(x) {
			t.Fatal("Negative", short(p), x, is, e)
		}
		l, f := sign.Prove(p, a, b)
		if f != e && (e != api.OK || f != api.ErrCheck || !is) || (len(l) > 0) != (f == api.OK) {
			t.Fatal("Prove", short(p), is, e, f)
		}
		i, g := sign.First(p, a, b, halvings)
		if (g == api.ErrArg) != (bad || halvings < 0) || (g == api.OK) != (is && halvings >= 0) || wide.ValidRatio(i.From) != (g == api.OK) {
			t.Fatal("First", short(p), i, e, g)
		}
		parts := make([]api.SignPart, r.Intn(4))
		for j := range parts {
			parts[j] = api.SignPart{Kind: api.SignKind(r.Intn(20) % 3), From: anyRatio(r), To: anyRatio(r)}
		}
		if h := sign.Check(p, a, b, parts); h == api.OK && (is || e != api.OK) {
			t.Fatal("Check", short(p), h)
		}
	}
}

// anyWide returns an integer that need not be valid.
func anyWide(r *rand.Rand) api.Wide {
	if r.Intn(40) > 0 {
		return randomWide(r, 1+r.Intn(20))
	}
	mag := make([]byte, r.Intn(4))
	for i := range mag {
		mag[i] = byte(r.Intn(2))
	}
	return api.Wide{Neg: r.Intn(2) == 0, Mag: string(mag)}
}

// anyPoly returns a polynomial that need not be valid or fit.
func anyPoly(r *rand.Rand) api.Poly {
	p := make(api.Poly, r.Intn(8))
	if r.Intn(20) == 0 {
		p = make(api.Poly, r.Intn(30))
	}
	for i := range p {
		p[i] = anyWide(r)
	}
	return p
}

// anyRatio returns a ratio that need not be valid.
func anyRatio(r *rand.Rand) api.Ratio {
	den := anyWide(r)
	den.Neg = den.Neg && r.Intn(10) == 0
	return api.Ratio{Num: anyWide(r), Den: den}
}
