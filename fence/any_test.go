package fence_test

import (
	"math/rand"
	"slices"
	"testing"

	"skylantern/api"
	"skylantern/fence"
	"skylantern/wide"
)

// P1: every function returns, for all arguments, and returns an error just if the chapter names one.

// anyVec returns a vector that need not be a point.
func anyVec(r *rand.Rand) api.Vec {
	part := func() int {
		switch r.Intn(60) {
		case 0:
			return int(r.Uint64())
		case 1:
			return []int{far, -far}[r.Intn(2)] + r.Intn(3) - 1
		}
		return r.Intn(7)
	}
	return v(part(), part(), part())
}

// anyList returns points that need not be a polygon.
func anyList(r *rand.Rand) []api.Vec {
	var l []api.Vec
	for range r.Intn(7) {
		l = append(l, anyVec(r))
	}
	return l
}

// anyFence returns a fence that need not be valid; many are.
func anyFence(r *rand.Rand) api.Fence {
	f := api.Fence{Outer: anyList(r), Low: -1, High: r.Intn(5)}
	if r.Intn(2) == 0 {
		f.Outer = p(-3, -3, 9, -3, 9, 9, -3, 9)
	}
	for range r.Intn(3) {
		f.Holes = append(f.Holes, anyList(r))
	}
	if r.Intn(20) == 0 {
		f.Low, f.High = int(r.Uint64()), int(r.Uint64())
	}
	return f
}

// anyRatio returns a ratio that need not be valid.
func anyRatio(r *rand.Rand) api.Ratio {
	number := func() api.Wide {
		if r.Intn(20) > 0 {
			return wide.Of(r.Intn(9) - 1)
		}
		mag := make([]byte, r.Intn(1200))
		r.Read(mag)
		return api.Wide{Neg: r.Intn(2) == 0, Mag: string(mag)}
	}
	return api.Ratio{Num: number(), Den: number()}
}

// errorIf returns ErrArg if an argument is bad.
func errorIf(bad bool) api.Errno {
	if bad {
		return api.ErrArg
	}
	return api.OK
}

func TestNoPanic(t *testing.T) {
	r := source()
	long := func(a api.Ratio) bool { return max(wide.Len(a.Num), wide.Len(a.Den)) > fence.MaxRatio }
	for range 30000 {
		f, a, b := anyFence(r), anyVec(r), anyVec(r)
		l := []api.Ratio{anyRatio(r), anyRatio(r), anyRatio(r)}
		all := []any{f, a, b, l}
		bad := !valid(f)
		if fence.Valid(f) == bad || fence.Simple(f.Outer) != simple(f.Outer) {
			t.Fatal("Valid", all)
		}
		if n, e := fence.Area2(f); e != errorIf(bad) || n > 0 == bad {
			t.Fatal("Area2", all, n, e)
		}
		if is, e := fence.Inside(f, a); e != errorIf(bad || notPoint(a)) || is && bad {
			t.Fatal("Inside", all, is, e)
		}
		want := errorIf(bad || slices.ContainsFunc(l, func(a api.Ratio) bool { return !wide.ValidRatio(a) }))
		if want == api.OK && slices.ContainsFunc(l, long) {
			want = api.ErrFull
		}
		if is, e := fence.InsideAt(f, l[0], l[1], l[2]); e != want || is && e != api.OK {
			t.Fatal("InsideAt", all, is, e)
		}
		if is, e := fence.Holds(f, a, b); e != errorIf(bad || notPoint(a) || notPoint(b)) || is && bad {
			t.Fatal("Holds", all, is, e)
		}
		if d, e := fence.Distance2(f, a); e != errorIf(bad || notPoint(a)) || wide.ValidRatio(d) != (e == api.OK) {
			t.Fatal("Distance2", all, d, e)
		}
		if many := len(edgesOf(f)); many > 0 == bad {
			t.Fatal("Edges", all, many)
		}
	}
}
