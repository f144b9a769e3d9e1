package poly_test

import (
	"math"
	"slices"
	"testing"

	"skylantern/api"
	"skylantern/poly"
	"skylantern/wide"
)

// P2.1

func TestValid(t *testing.T) {
	good := append(samples(), full(poly.MaxDegree, wide.MaxBits, 0), api.Poly{below(wide.MaxBits)}, append(make(api.Poly, poly.MaxDegree), wide.Of(-1)))
	for _, p := range good {
		if !poly.Valid(p) {
			t.Error("not valid:", short(p))
		}
	}
	for i, p := range invalid() {
		if poly.Valid(p) {
			t.Error("valid:", i)
		}
	}
}

func TestOf(t *testing.T) {
	for i, c := range []struct{ of, want []int }{
		{nil, nil},
		{[]int{0}, nil},
		{[]int{0, 0}, nil},
		{make([]int, 1000), nil},
		{[]int{7}, []int{7}},
		{[]int{1, 0, -2, 0}, []int{1, 0, -2}},
		{[]int{0, 0, 3}, []int{0, 0, 3}},
		{[]int{math.MinInt, math.MaxInt, -1, 0, 0}, []int{math.MinInt, math.MaxInt, -1}},
		{append(make([]int, poly.MaxDegree), 1), append(make([]int, poly.MaxDegree), 1)},
		{append(append(make([]int, poly.MaxDegree), 5), make([]int, 50)...), append(make([]int, poly.MaxDegree), 5)},
	} {
		if p, e := poly.Of(c.of...); !slices.Equal(p, ints(c.want...)) || e != api.OK {
			t.Error(i, short(p), e)
		}
	}
	for _, n := range []int{poly.MaxDegree + 1, poly.MaxDegree + 2, 1000} {
		p, e := poly.Of(append(append(make([]int, n), 1), 0, 0)...)
		expectError(t, "Of", p, e, api.ErrFull)
	}
}

func TestDegreeBits(t *testing.T) {
	for i, c := range []struct {
		p            api.Poly
		degree, bits int
	}{
		{nil, -1, 0},
		{api.Poly{}, -1, 0},
		{ints(1), 0, 1},
		{ints(-8), 0, 4},
		{ints(1, 0, -2), 2, 2},
		{ints(255, -256, 1), 2, 9},
		{ints(-256, 255), 1, 9},
		{ints(0, 0, 0, math.MinInt), 3, 64},
		{full(poly.MaxDegree, wide.MaxBits, 3), poly.MaxDegree, wide.MaxBits},
	} {
		if n, e := poly.Degree(c.p); n != c.degree || e != api.OK {
			t.Error("Degree", i, n, e)
		}
		if n, e := poly.Bits(c.p); n != c.bits || e != api.OK {
			t.Error("Bits", i, n, e)
		}
	}
	for _, p := range invalid() {
		n, e := poly.Degree(p)
		expectNone(t, "Degree", n, e, api.ErrArg)
		n, e = poly.Bits(p)
		expectNone(t, "Bits", n, e, api.ErrArg)
	}
}

func TestEqual(t *testing.T) {
	all := samples()[1:]
	for i, p := range all {
		for j, q := range all {
			if poly.Equal(p, q) != (i == j) {
				t.Error(short(p), short(q))
			}
		}
		if !poly.Equal(p, slices.Clone(p)) {
			t.Error(short(p))
		}
	}
	if !poly.Equal(nil, api.Poly{}) || !poly.Equal(nil, nil) {
		t.Error("empty lists")
	}
	if poly.Equal(ints(1, 2), ints(1, -2)) || poly.Equal(ints(1, 2), ints(2, 1)) || poly.Equal(ints(1), ints(1, 1)) {
		t.Error("equal")
	}
}

// Equal is about lists: it says nothing about whether they are valid.
func TestEqualOfInvalid(t *testing.T) {
	all := invalid()
	for i, p := range all {
		for j, q := range all {
			if poly.Equal(p, slices.Clone(q)) != (i == j) {
				t.Error(i, j)
			}
		}
	}
	if poly.Equal(ints(1), ints(1, 0)) || poly.Equal(nil, ints(0)) {
		t.Error("equal")
	}
}
