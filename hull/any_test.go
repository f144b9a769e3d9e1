package hull_test

import (
	"math/rand"
	"slices"
	"testing"

	"skylantern/api"
	"skylantern/hull"
	"skylantern/vector"
)

// P1: every function returns, for all arguments, and returns an error just if the chapter names one.

// anyVec returns a vector that need not be valid.
func anyVec(r *rand.Rand) api.Vec {
	part := func() int {
		switch r.Intn(40) {
		case 0:
			return int(r.Uint64())
		case 1:
			return []int{far, -far, vector.MaxPart, -vector.MaxPart}[r.Intn(4)] + r.Intn(3) - 1
		}
		return r.Intn(5)
	}
	return api.Vec{X: part(), Y: part(), Z: part() * r.Intn(2)}
}

// anyList returns points that need not be a hull; many are one.
func anyList(r *rand.Rand) []api.Vec {
	var l []api.Vec
	for range r.Intn(6) {
		l = append(l, anyVec(r))
	}
	if r.Intn(3) == 0 || len(l) == 0 || slices.ContainsFunc(l, notPoint) {
		return l
	}
	return cornersOf(l)
}

// notPoint reports whether a vector is not a point.
func notPoint(v api.Vec) bool {
	return max(v.X, v.Y, v.Z) > far || min(v.X, v.Y, v.Z) < -far
}

// isHull reports whether a short list is a hull.
func isHull(l []api.Vec) bool {
	return len(l) > 0 && !slices.ContainsFunc(l, notPoint) && slices.Equal(l, cornersOf(l))
}

// errorIf returns ErrArg if an argument is bad.
func errorIf(bad bool) api.Errno {
	if bad {
		return api.ErrArg
	}
	return api.OK
}

func TestNoPanic(t *testing.T) {
	r := source()
	for range 30000 {
		a, b, q := anyList(r), anyList(r), anyVec(r)
		all := []any{a, b, q}
		badA, badB := !isHull(a), !isHull(b)
		if hull.Valid(a) != !badA {
			t.Fatal("Valid", all)
		}
		want := errorIf(slices.ContainsFunc(a, notPoint))
		if len(a) == 0 {
			want = api.ErrNone
		}
		if h, e := hull.Hull(a); e != want || (len(h) == 0) != (e != api.OK) {
			t.Fatal("Hull", all, h, e)
		}
		if n, e := hull.Side(a, q); e != errorIf(badA || notPoint(q)) || n < -1 || n > 1 {
			t.Fatal("Side", all, n, e)
		}
		if n, e := hull.Area2(a); e != errorIf(badA) || n < 0 {
			t.Fatal("Area2", all, n, e)
		}
		if i, j, n, e := hull.Diameter2(a); e != errorIf(badA) || i > j || i == j && (i > 0 || n > 0) {
			t.Fatal("Diameter2", all, i, j, n, e)
		}
		if low, high, e := hull.Extent(a, q); e != errorIf(badA || !vector.Valid(q)) || low > high {
			t.Fatal("Extent", all, low, high, e)
		}
		if h, e := hull.Merge(a, b); e != errorIf(badA || badB) || (len(h) == 0) != (e != api.OK) {
			t.Fatal("Merge", all, h, e)
		}
	}
}
