package hull_test

import (
	"slices"
	"testing"

	"skylantern/api"
	"skylantern/hull"
)

// P7.5 and P7.6

// sameMerge fails unless the hull of two hulls is the one that is wanted, in both orders.
func sameMerge(t *testing.T, a, b, want []api.Vec, wantErr api.Errno) {
	t.Helper()
	h, e := hull.Merge(a, b)
	same(t, []any{a, b}, h, e, want, wantErr)
	h, e = hull.Merge(b, a)
	same(t, []any{b, a}, h, e, want, wantErr)
}

func TestMergeExamples(t *testing.T) {
	for _, c := range []struct{ a, b, want []api.Vec }{
		{square, line, p(0, 0, 2, 0, 3, 3, 0, 2)},
		{square, dot, p(0, 0, 2, 0, 5, 5, 0, 2)},
		{line, dot, p(1, 1, 5, 5)},
		{dot, p(5, 6), p(5, 5, 5, 6)},
		{square, greatest, greatest},
		{square, p(1, 1), square},
		{square, p(2, 1), square},
		{square, p(2, 0, 4, 0, 4, 2, 2, 2), p(0, 0, 4, 0, 4, 2, 0, 2)},
		{p(-far, -far), p(far, far), p(-far, -far, far, far)},
	} {
		sameMerge(t, c.a, c.b, c.want, api.OK)
	}
}

func TestMerge(t *testing.T) {
	l := hulls()
	for i, a := range l {
		b := l[(i*7+3)%len(l)]
		sameMerge(t, a, b, cornersOf(slices.Concat(a, b)), api.OK)
		sameMerge(t, a, a, a, api.OK)
	}
}

func TestMergeOfHullsOfParts(t *testing.T) {
	for _, l := range samples() {
		for i := 1; i < len(l); i++ {
			a, _ := hull.Hull(l[:i])
			b, _ := hull.Hull(l[i:])
			all, _ := hull.Hull(l)
			sameMerge(t, a, b, all, api.OK)
		}
	}
}

func TestMergeOfLargeHulls(t *testing.T) {
	most := roundHull(hull.MaxPoints)
	sameMerge(t, most, most, most, api.OK)
	sameMerge(t, most, most[:hull.MaxPoints-1], most, api.OK)
	sameMerge(t, most, p(most[0].X, most[0].Y), most, api.OK)
	// The hull of two hulls may have more corners than each of them may have.
	many := roundHull(hull.MaxPoints + 6000)
	var even, odd []api.Vec
	for i, c := range many {
		if i%2 == 0 {
			even = append(even, c)
		} else {
			odd = append(odd, c)
		}
	}
	sameMerge(t, even, fromLeast(odd), many, api.OK)
}

func TestErrArgOfMerge(t *testing.T) {
	for _, bad := range notHulls() {
		for _, h := range [][]api.Vec{square, line, dot, nil, bad} {
			sameMerge(t, bad, h, nil, api.ErrArg)
		}
	}
}
