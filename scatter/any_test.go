package scatter_test

import (
	"math/rand"
	"slices"
	"testing"

	"skylantern/api"
	"skylantern/figure"
	"skylantern/scatter"
)

// P1: every function returns, for all arguments, and returns an error just if the chapter names one.

// anyList returns vectors that need not be points, nor in order; many are.
func anyList(r *rand.Rand) []api.Vec {
	l := randomPoints(r, r.Intn(9))
	if r.Intn(4) > 0 {
		l = set(l)
	}
	for i := range l {
		if r.Intn(60) == 0 {
			l[i] = [...]api.Vec{v(int(r.Uint64()), 0, 0), v(0, far+1, 0), v(0, 0, -far-1), l[0]}[r.Intn(4)]
		}
	}
	return l
}

// anyNumber returns a number that need not be one of points.
func anyNumber(r *rand.Rand) int {
	if r.Intn(20) == 0 {
		return int(r.Uint64())
	}
	return r.Intn(10) - 1
}

// points reports whether all vectors are points.
func points(l []api.Vec) bool {
	for _, a := range l {
		if max(a.X, a.Y, a.Z) > far || min(a.X, a.Y, a.Z) < -far {
			return false
		}
	}
	return true
}

// firstOf returns the first error that applies, or OK.
func firstOf(arg, none, tooMany bool) api.Errno {
	switch {
	case arg:
		return api.ErrArg
	case none:
		return api.ErrNone
	case tooMany:
		return api.ErrRange
	}
	return api.OK
}

func TestNoPanic(t *testing.T) {
	r, seen := source(), map[api.Errno]int{}
	for range 30000 {
		l, chosen, many := anyList(r), anyList(r), anyNumber(r)
		bad := !points(l) || !slices.Equal(set(l), l)
		got, e := scatter.Pick(l, many)
		if want := firstOf(bad || many < 0, false, many > len(l)); e != want || e != api.OK && got != nil || e == api.OK && len(got) != many {
			t.Fatal("Pick", l, many, got, e)
		}
		seen[e]++
		n, e := scatter.Spread(l)
		if want := firstOf(bad, len(l) < 2, false); e != want || n > 0 != (e == api.OK) {
			t.Fatal("Spread", l, n, e)
		}
		seen[e]++
		n, e = scatter.Cover(l, chosen)
		if want := firstOf(bad || !points(chosen), len(chosen) == 0, false); e != want || n < 0 || e != api.OK && n != 0 {
			t.Fatal("Cover", l, chosen, n, e)
		}
		seen[e]++
		f := api.Figure{dots(l)}
		got, e = scatter.Formation(f, many)
		if want := firstOf(!figure.Valid(f) || many < 0, false, many > len(set(l))); e != want || e != api.OK && got != nil || e == api.OK && len(got) != many {
			t.Fatal("Formation", l, many, got, e)
		}
	}
	if len(seen) != 4 || seen[api.OK] < 10000 || seen[api.ErrArg] < 10000 || seen[api.ErrNone] < 5000 || seen[api.ErrRange] < 5000 {
		t.Error(seen)
	}
}

func TestLimit(t *testing.T) {
	if scatter.MaxPoints != 4096 {
		t.Error(scatter.MaxPoints)
	}
}
