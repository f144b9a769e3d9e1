package bernstein_test

import (
	"math/big"
	"math/rand"
	"slices"
	"testing"

	"skylantern/api"
	"skylantern/bernstein"
	"skylantern/poly"
	"skylantern/sign"
	"skylantern/wide"
)

// P5.6

func TestPolyInvertsForm(t *testing.T) {
	for _, p := range samples() {
		for degree := max(len(p)-1, 0); degree <= poly.MaxDegree; degree += 5 {
			form, _ := bernstein.Form(p, degree)
			q, e := bernstein.Poly(form)
			expect(t, "Poly of Form "+short(p), q, e, p)
		}
	}
	for _, form := range forms() {
		p, _ := bernstein.Poly(form)
		again, e := bernstein.Form(p, len(form)-1)
		expect(t, "Form of Poly "+short(form), again, e, form)
	}
}

func TestEndsAreValues(t *testing.T) {
	for _, p := range samples() {
		for degree := max(len(p)-1, 0); degree <= poly.MaxDegree; degree += 3 {
			form, _ := bernstein.Form(p, degree)
			for i, at := range []api.Ratio{ratio(0, 1), ratio(1, 1)} {
				value, _ := poly.Value(p, at)
				if form[i*degree] != value.Num {
					t.Fatal(short(p), degree, i)
				}
			}
		}
	}
}

// bounds is a function that returns bounds of something.
type bounds func() (least, greatest api.Ratio, e api.Errno)

// mustBound returns bounds as big ratios.
func mustBound(t *testing.T, from bounds) (low, high *big.Rat) {
	t.Helper()
	least, greatest, e := from()
	if e != api.OK {
		t.Fatal(e)
	}
	return ratOf(least), ratOf(greatest)
}

// expectValuesBetween fails unless some values of a polynomial from 0 to 1 are between bounds.
func expectValuesBetween(t *testing.T, p api.Poly, low, high *big.Rat) {
	t.Helper()
	for _, den := range []int64{1, 2, 7, 16, 513} {
		for num := int64(0); num <= den; num += 1 + den/20 {
			value := valueAt(p, big.NewRat(num, den))
			if value.Cmp(low) < 0 || value.Cmp(high) > 0 {
				t.Fatal(short(p), num, den)
			}
		}
	}
}

func TestValuesAreBetweenBounds(t *testing.T) {
	for _, p := range samples() {
		for degree := max(len(p)-1, 0); degree <= poly.MaxDegree; degree += 6 {
			form, _ := bernstein.Form(p, degree)
			low, high := mustBound(t, func() (api.Ratio, api.Ratio, api.Errno) { return bernstein.Bounds(form) })
			expectValuesBetween(t, p, low, high)
		}
	}
}

func TestGreaterDepthsAreNotWider(t *testing.T) {
	for _, p := range samples() {
		form, _ := bernstein.Form(p, max(len(p)-1, 0))
		low, high := mustBound(t, func() (api.Ratio, api.Ratio, api.Errno) { return bernstein.Bounds(form) })
		for depth := range bernstein.MaxDepth + 1 {
			least, greatest := mustBound(t, func() (api.Ratio, api.Ratio, api.Errno) { return bernstein.Enclose(p, depth) })
			if least.Cmp(low) < 0 || greatest.Cmp(high) > 0 || depth == 0 && (least.Cmp(low) > 0 || greatest.Cmp(high) < 0) {
				t.Fatal(short(p), depth)
			}
			expectValuesBetween(t, p, least, greatest)
			low, high = least, greatest
		}
	}
}

func TestPositiveIsNowhereNegative(t *testing.T) {
	for _, p := range append(nearZero(), samples()...) {
		_, negative, e := sign.Negative(p, ratio(0, 1), ratio(1, 1))
		shown := false
		for depth := range bernstein.MaxDepth + 1 {
			is, _ := bernstein.Positive(p, depth)
			if is && e == api.OK && negative || shown && !is {
				t.Fatal(short(p), depth)
			}
			shown = is
		}
	}
}

// P1, and the rules of DOC.md about arguments and results.

// spoil overwrites a list and what lies behind it.
func spoil(l []api.Wide) {
	for i := range l[:cap(l)] {
		l[:cap(l)][i] = wide.Of(99)
	}
}

// withRoom returns a copy of a list with something behind it, which must not be used either.
func withRoom(l []api.Wide) []api.Wide { return append(slices.Clone(l), ints(7, 7, 7)...)[:len(l)] }

// expectSame fails unless a list that was made by withRoom is still the same.
func expectSame(t *testing.T, got, want []api.Wide) {
	t.Helper()
	if !slices.Equal(got[:len(want)+3], append(slices.Clone(want), ints(7, 7, 7)...)) {
		t.Error("an argument has been changed", short(want))
	}
}

func TestNothingIsSharedOrModifiedByForms(t *testing.T) {
	for _, form := range forms() {
		given := withRoom(form)
		p, _ := bernstein.Poly(given)
		left, right, _ := bernstein.Split(given)
		bernstein.Bounds(given)
		expectSame(t, given, form)
		kept := slices.Clone(right)
		spoil(p)
		spoil(left)
		if !slices.Equal(right, kept) {
			t.Error("two results share memory", short(form))
		}
		spoil(right)
		expectSame(t, given, form)
		expectPoly(t, form)
		expectSplit(t, form)
	}
}

func TestNothingIsSharedOrModifiedByPolynomials(t *testing.T) {
	for _, p := range samples() {
		given, degree := withRoom(p), max(len(p)-1, 0)
		for _, more := range []int{0, 2} {
			form, _ := bernstein.Form(given, min(degree+more, poly.MaxDegree))
			spoil(form)
		}
		bernstein.Enclose(given, 2)
		bernstein.Positive(given, 2)
		expectSame(t, given, p)
		expectForm(t, p, degree)
	}
}

// anyList returns integers of which some need not be valid.
func anyList(r *rand.Rand, length int) []api.Wide {
	out := randomList(r, length, 1+r.Intn(80))
	for i := range out {
		if r.Intn(60) == 0 {
			out[i] = invalidWides()[r.Intn(3)]
		}
	}
	return out
}

func TestNoPanic(t *testing.T) {
	r := source()
	for range 4000 {
		l, degree, depth := anyList(r, r.Intn(29)), r.Intn(32)-3, r.Intn(7)-2
		valid := !slices.ContainsFunc(l, func(a api.Wide) bool { return !wide.Valid(a) })
		want := api.OK
		if !valid || len(l) < 1 || len(l) > 25 {
			want = api.ErrArg
			expectFormErrors(t, l, want)
		}
		p, e := bernstein.Poly(l)
		left, right, f := bernstein.Split(l)
		least, greatest, g := bernstein.Bounds(l)
		ok := want == api.OK
		if e != want || f != want || g != want || !poly.Valid(p) || len(left) != len(right) || ok && len(left) != len(l) || wide.ValidRatio(least) != ok || wide.ValidRatio(greatest) != ok {
			t.Fatal(short(l), e, f, g)
		}
		form, e := bernstein.Form(l, degree)
		if bad := !poly.Valid(l) || degree < 0 || degree > 24; (e == api.ErrArg) != bad || (e == api.ErrRange) != (!bad && degree+1 < len(l)) || len(form) > 0 != (e == api.OK) || e == api.OK && len(form) != degree+1 {
			t.Fatal("Form", short(l), degree, short(form), e)
		}
		least, greatest, e = bernstein.Enclose(l, depth)
		is, f := bernstein.Positive(l, depth)
		if bad := !poly.Valid(l) || depth < 0; (e == api.ErrArg) != bad || f != e || is && bad || wide.ValidRatio(least) == bad || wide.ValidRatio(greatest) == bad {
			t.Fatal("Enclose", short(l), depth, is, e, f)
		}
	}
}
