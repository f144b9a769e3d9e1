package bernstein_test

import (
	"math"
	"slices"
	"testing"

	"skylantern/api"
	"skylantern/bernstein"
	"skylantern/poly"
	"skylantern/wide"
)

// P5.1

// expectForm fails unless Form returns the form of a polynomial for a degree.
func expectForm(t *testing.T, p api.Poly, degree int) {
	t.Helper()
	form, e := bernstein.Form(p, degree)
	expect(t, "Form "+short(p), form, e, widesOf(formOf(padded(p, degree))))
	if len(form) != degree+1 || !slices.Equal(widesOf(standsFor(form)), widesOf(padded(p, degree))) {
		t.Fatal("Form", short(p), degree, short(form))
	}
}

// expectPoly fails unless Poly returns the polynomial that a form stands for.
func expectPoly(t *testing.T, form []api.Wide) {
	t.Helper()
	p, e := bernstein.Poly(form)
	expect(t, "Poly "+short(form), p, e, trimmed(widesOf(standsFor(form))))
	if !poly.Valid(p) {
		t.Fatal("Poly", short(form), short(p))
	}
}

func TestForm(t *testing.T) {
	for _, p := range samples() {
		for degree := max(len(p)-1, 0); degree <= poly.MaxDegree; degree++ {
			expectForm(t, p, degree)
		}
	}
}

func TestPoly(t *testing.T) {
	for _, form := range forms() {
		expectPoly(t, form)
	}
}

func TestFormExamples(t *testing.T) {
	for _, c := range []struct{ p, form api.Poly }{
		{ints(1, -2, 1), ints(1, 0, 0)},
		{ints(1, -2, 1), ints(1, 1, 0, 0)},
		{ints(0, 1, -1), ints(0, 1, 0)},
		{ints(0, 0, 0, 1), ints(0, 0, 0, 1)},
		{ints(0, 1), ints(0, 1, 2, 1)},
		{ints(5), ints(5, 10, 5)},
		{ints(5), ints(5)},
		{ints(-1, 2), ints(-1, 1)},
		{nil, ints(0)},
		{nil, ints(0, 0, 0)},
		{ints(3), ints(3, 9, 9, 3)},
	} {
		form, e := bernstein.Form(c.p, len(c.form)-1)
		expect(t, "Form "+short(c.p), form, e, c.form)
		p, e := bernstein.Poly(c.form)
		expect(t, "Poly "+short(c.form), p, e, c.p)
	}
}

func TestFormErrors(t *testing.T) {
	for _, degree := range []int{math.MinInt, -1, poly.MaxDegree + 1, math.MaxInt} {
		for _, p := range []api.Poly{nil, ints(1), ints(1, 2, 3), full(25, wide.MaxBits, ones)} {
			expectFormError(t, p, degree, api.ErrArg)
		}
	}
	for _, p := range notPolys() {
		for _, degree := range []int{-1, 0, 1, poly.MaxDegree} {
			expectFormError(t, p, degree, api.ErrArg)
		}
	}
	for _, p := range samples() {
		for degree := range max(len(p)-1, 0) {
			expectFormError(t, p, degree, api.ErrRange)
		}
	}
	expectFormError(t, full(3, wide.MaxBits, ones), 1, api.ErrRange)
	expectFormError(t, full(3, wide.MaxBits, ones), 2, api.ErrFull)
}

func TestErrorsOfLists(t *testing.T) {
	for _, form := range notForms() {
		expectFormErrors(t, form, api.ErrArg)
	}
}

func TestFormAndPolyAtTheLimit(t *testing.T) {
	const most = wide.MaxBits - 30
	for _, length := range []int{1, 2, 12, 25} {
		for _, as := range patterns() {
			expectForm(t, full(length, most, as), length-1)
			expectForm(t, full(length, most, as), poly.MaxDegree)
			expectPoly(t, full(length, most, as))
			expectFormError(t, full(length, most+1, as), length-1, api.ErrFull)
			expectFormErrors(t, full(length, most+1, as), api.ErrFull)
		}
		for _, at := range []int{0, length / 2, length - 1} {
			expectPoly(t, alone(length, at, most))
			expectFormErrors(t, alone(length, at, most+1), api.ErrFull)
		}
	}
	expectFormError(t, append(full(1, most+1, ones), wide.Of(1)), poly.MaxDegree, api.ErrFull)
}

// P5.2

// expectSplit fails unless Split returns the halves of a form.
func expectSplit(t *testing.T, form []api.Wide) {
	t.Helper()
	left, right, e := bernstein.Split(form)
	if len(left) != len(form) || len(right) != len(form) || e != api.OK {
		t.Fatal("Split", short(form), short(left), short(right), e)
	}
	// 2 u is v, or 1 + v.
	first := expanded(bigsOf(form), [2]int64{0, 1}, [2]int64{2, -1})
	second := expanded(bigsOf(form), [2]int64{1, 1}, [2]int64{1, -1})
	expect(t, "left of "+short(form), widesOf(standsFor(left)), e, widesOf(first))
	expect(t, "right of "+short(form), widesOf(standsFor(right)), e, widesOf(second))
}

func TestSplit(t *testing.T) {
	for _, form := range forms() {
		expectSplit(t, form)
	}
}

func TestSplitExamples(t *testing.T) {
	for _, c := range []struct{ form, left, right []api.Wide }{
		{ints(1, 0), ints(2, 1), ints(1, 0)},
		{ints(0, 2, 0), ints(0, 4, 2), ints(2, 4, 0)},
		{ints(1, -2, 1), ints(4, 0, 0), ints(0, 0, 4)},
		{ints(-7), ints(-7), ints(-7)},
		{ints(0, 0, 0, 8), ints(0, 0, 0, 8), ints(8, 48, 96, 64)},
	} {
		left, right, e := bernstein.Split(c.form)
		expect(t, "left of "+short(c.form), left, e, c.left)
		expect(t, "right of "+short(c.form), right, e, c.right)
	}
}

func TestSplitAtTheLimit(t *testing.T) {
	for _, length := range []int{1, 2, 12, 25} {
		most := wide.MaxBits - 30 - (length - 1)
		for _, as := range patterns() {
			expectSplit(t, full(length, most, as))
			expectSplitError(t, full(length, most+1, as), api.ErrFull)
		}
		for at := range length {
			expectSplitError(t, alone(length, at, most+1), api.ErrFull)
		}
		expectSplit(t, alone(length, length/2, most))
	}
}
