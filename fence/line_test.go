package fence_test

import (
	"math/rand"
	"testing"

	"skylantern/api"
	"skylantern/fence"
)

// P8.4

// holds calls Holds in both directions, which have to agree.
func holds(t *testing.T, f api.Fence, a, b api.Vec) bool {
	t.Helper()
	is, e := fence.Holds(f, a, b)
	same, g := fence.Holds(f, b, a)
	if e != api.OK || g != api.OK || is != same {
		t.Error(f, a, b, is, same, e, g)
	}
	return is
}

func TestHoldsExamples(t *testing.T) {
	l := api.Fence{Outer: p(0, 0, 0, 4, 2, 4, 2, 2, 4, 2, 4, 0)}
	for i, c := range []struct {
		f    api.Fence
		a, b api.Vec
		want bool
	}{
		{yard(), v(1, 1, 2), v(9, 1, 4), true},
		{yard(), v(1, 5, 2), v(9, 5, 2), false},
		{yard(), v(4, 0, 1), v(4, 10, 1), true},
		{yard(), v(3, 3, 3), v(7, 7, 3), false},
		{yard(), v(2, 4, 1), v(4, 2, 5), true},
		{yard(), v(2, 6, 1), v(6, 2, 5), true},
		{yard(), v(2, 7, 1), v(7, 2, 5), false},
		{yard(), v(1, 1, 2), v(1, 1, 6), false},
		{yard(), v(1, 1, 0), v(1, 1, 5), false},
		{yard(), v(1, 1, 1), v(1, 1, 5), true},
		{yard(), v(5, 5, 1), v(5, 5, 5), false},
		{yard(), v(4, 4, 1), v(6, 6, 5), false},
		{yard(), v(4, 4, 1), v(4, 6, 5), true},
		{yard(), v(4, 5, 1), v(5, 4, 1), false},
		{yard(), v(0, 0, 1), v(10, 10, 1), false},
		{yard(), v(0, 0, 1), v(0, 10, 1), true},
		{yard(), v(0, 0, 1), v(0, 11, 1), false},
		{yard(), v(-1, 0, 1), v(11, 0, 1), false},
		{yard(), v(-1, 11, 1), v(1, 9, 1), false},
		{yard(), v(-1, 1, 1), v(1, -1, 1), false},
		{yard(), v(5, 4, 1), v(5, 6, 1), false},
		{yard(), v(5, 0, 1), v(5, 4, 1), true},
		{yard(), v(5, 0, 1), v(5, 5, 1), false},
		{l, v(0, 4, 0), v(4, 0, 0), true},
		{l, v(2, 4, 0), v(4, 2, 0), false},
		{l, v(1, 4, 0), v(1, 0, 0), true},
		{l, v(2, 4, 0), v(2, 0, 0), true},
		{l, v(1, 3, 0), v(3, 1, 0), true},
		{l, v(2, 3, 0), v(3, 2, 0), false},
		{greatest(), v(-far, -far, -far), v(-far, far, far), true},
		{greatest(), v(-far, 1-far, -far), v(1-far, far, far), true},
		{greatest(), v(-far, 1-far, -far), v(2-far, far-1, far), false},
		{greatest(), v(-far, -far, 0), v(far, 1-far, 0), true},
		{greatest(), v(-far, -far, 0), v(far, 2-far, 0), false},
		{greatest(), v(-far, -far, 0), v(far, far, 0), false},
		{combs(), v(0, 23, 0), v(6100, 23, 0), true},
		{combs(), v(0, 22, 0), v(6100, 22, 0), false},
		{combs(), v(0, 20, 0), v(6100, 20, 0), true},
	} {
		if is := holds(t, c.f, c.a, c.b); is != c.want {
			t.Error(i, is)
		}
	}
}

// holdsAll compares Holds with the definition for many lines of a fence.
func holdsAll(t *testing.T, r *rand.Rand, f api.Fence, many int) (found int) {
	t.Helper()
	for range many {
		a, b := v(r.Intn(14)-1, r.Intn(14)-1, f.Low), v(r.Intn(14)-1, r.Intn(14)-1, f.High)
		want := held(f, a, b)
		if holds(t, f, a, b) != want {
			t.Fatal(f, a, b, !want)
		}
		if want && a != b {
			found++
		}
	}
	return found
}

func TestHolds(t *testing.T) {
	r, found := source(), 0
	for _, f := range fences() {
		many := 400
		if len(f.Holes) == fence.MaxHoles {
			many = 5
		}
		found += holdsAll(t, r, f, many)
	}
	for range 150 {
		found += holdsAll(t, r, randomFence(r, 12), 30)
	}
	if found < 300 {
		t.Error("only", found)
	}
}

func TestHoldsAlongEdgesAndBetweenCorners(t *testing.T) {
	r := source()
	l := []api.Fence{yard(), hooks()}
	for range 10 {
		l = append(l, randomFence(r, 9))
	}
	for _, f := range l {
		var corners []api.Vec
		for a := range fence.Edges(f) {
			corners = append(corners, v(a.X, a.Y, f.Low))
		}
		for _, a := range corners {
			for _, b := range corners {
				// Lines that go on beyond a corner, too.
				for _, c := range []api.Vec{b, v(2*b.X-a.X, 2*b.Y-a.Y, f.Low), v(3*b.X-2*a.X, 3*b.Y-2*a.Y, f.Low)} {
					if want := held(f, a, c); holds(t, f, a, c) != want {
						t.Fatal(f, a, c, !want)
					}
				}
			}
		}
	}
}

func TestHeightsOfHolds(t *testing.T) {
	for low := -1; low < 8; low++ {
		for high := -1; high < 8; high++ {
			want := min(low, high) >= 1 && max(low, high) <= 5
			if holds(t, yard(), v(1, 1, low), v(1, 2, high)) != want || holds(t, yard(), v(1, 1, low), v(1, 1, high)) != want {
				t.Error(low, high, !want)
			}
		}
	}
}
