package vector_test

import (
	"math"
	"math/rand"
	"testing"

	"skylantern/api"
	"skylantern/vector"
)

// P1: every function returns, for all arguments, and returns an error just if the chapter names one.

// anyInt returns any number; many are near limits.
func anyInt(r *rand.Rand) int {
	switch r.Intn(8) {
	case 0:
		return int(r.Uint64())
	case 1:
		return []int{math.MinInt, math.MaxInt, vector.MaxDen, -vector.MaxDen}[r.Intn(4)] + r.Intn(3) - 1
	case 2:
		return randomPart(r, most+2)
	default:
		return randomPart(r, 20)
	}
}

// anyVec returns a vector that need not be valid.
func anyVec(r *rand.Rand) api.Vec { return v(anyInt(r), anyInt(r), anyInt(r)) }

// argError returns ErrArg if one of some vectors is not valid.
func argError(l ...api.Vec) api.Errno {
	for _, a := range l {
		for _, n := range parts(a) {
			if n < -most || n > most {
				return api.ErrArg
			}
		}
	}
	return api.OK
}

func TestNoPanic(t *testing.T) {
	r := source()
	for range 200000 {
		a, b, c, num, den := anyVec(r), anyVec(r), anyVec(r), anyInt(r), anyInt(r)
		all := []any{a, b, c, num, den}
		if vector.Valid(a) != (argError(a) == api.OK) || vector.Point(a) && !vector.Valid(a) || vector.Compare(a, b) != -vector.Compare(b, a) {
			t.Fatal(all)
		}
		sum, e := vector.Add(a, b)
		difference, f := vector.Sub(a, b)
		scaled, g := vector.Scale(a, num)
		for i, got := range []api.Errno{e, f, g} {
			if want := []api.Errno{argError(a, b), argError(a, b), argError(a)}[i]; want != api.OK && got != want || want == api.OK && got != api.OK && got != api.ErrRange {
				t.Fatal(all, i, got)
			}
			if result := []api.Vec{sum, difference, scaled}[i]; !vector.Valid(result) || got != api.OK && result != v(0, 0, 0) {
				t.Fatal(all, i, result)
			}
		}
		if _, e := vector.Dot(a, b); e != argError(a, b) {
			t.Fatal("Dot", all, e)
		}
		if _, e := vector.Cross(a, b); e != argError(a, b) {
			t.Fatal("Cross", all, e)
		}
		if n, e := vector.Length2(a); e != argError(a) || n < 0 {
			t.Fatal("Length2", all, n, e)
		}
		if n, e := vector.Distance2(a, b); e != argError(a, b) || n < 0 {
			t.Fatal("Distance2", all, n, e)
		}
		if n, e := vector.Turn(a, b, c); e != argError(a, b, c) || n < -1 || n > 1 {
			t.Fatal("Turn", all, n, e)
		}
		want := argError(a, b)
		if den < 1 || den > vector.MaxDen || num < 0 || num > den {
			want = api.ErrArg
		}
		if p, e := vector.Between(a, b, num, den); e != want || !vector.Valid(p) {
			t.Fatal("Between", all, p, e)
		}
		if low, high, e := vector.Box([]api.Vec{a, b, c}); e != argError(a, b, c) || !vector.Valid(low) || !vector.Valid(high) {
			t.Fatal("Box", all, low, high, e)
		}
	}
}
