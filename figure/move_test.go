package figure_test

import (
	"math"
	"slices"
	"testing"

	"skylantern/api"
	"skylantern/figure"
	"skylantern/vector"
)

// P9.4

// shifted returns a figure whose corners are moved by a vector, and whether all of them are points.
func shifted(f api.Figure, by api.Vec) (api.Figure, bool) {
	out := clone(f)
	for _, s := range out {
		for i, c := range s.Corners {
			to := v(c.X+by.X, c.Y+by.Y, c.Z+by.Z)
			if max(to.X, to.Y, to.Z) > far || min(to.X, to.Y, to.Z) < -far {
				return nil, false
			}
			s.Corners[i] = to
		}
	}
	return out, true
}

// isMoved fails unless Move returns what is wanted.
func isMoved(t *testing.T, f api.Figure, by api.Vec, want api.Figure, wantErr api.Errno) {
	t.Helper()
	got, e := figure.Move(f, by)
	isFigure(t, []any{f, by}, got, e, want, wantErr)
}

func TestMoveExamples(t *testing.T) {
	isMoved(t, api.Figure{dots(1, 2, 3)}, v(1, -1, 0), api.Figure{dots(2, 1, 3)}, api.OK)
	isMoved(t, api.Figure{dots(1, 2, 3, 0, 0, 0), ring(api.PlaneYZ, 3, 4, v(5, 6, 7))}, v(-1, 10, 100), api.Figure{dots(0, 12, 103, -1, 10, 100), ring(api.PlaneYZ, 3, 4, v(4, 16, 107))}, api.OK)
	isMoved(t, api.Figure{line(2, 0, 0, 0, 1, 1, 1), loop(3, 0, 0, 0, 1, 1, 1, 2, 2, 2), sphere(9, 8, v(0, 0, 0))}, v(0, 0, -5), api.Figure{line(2, 0, 0, -5, 1, 1, -4), loop(3, 0, 0, -5, 1, 1, -4, 2, 2, -3), sphere(9, 8, v(0, 0, -5))}, api.OK)
	isMoved(t, nil, v(1, 2, 3), nil, api.OK)
	isMoved(t, api.Figure{}, v(vector.MaxPart, -vector.MaxPart, 0), nil, api.OK)
	isMoved(t, api.Figure{dots(-far, 0, far)}, v(2*far, -far, -2*far), api.Figure{dots(far, -far, -far)}, api.OK)
	isMoved(t, api.Figure{sphere(50, 10000, v(0, 0, 0))}, v(far, far, far), api.Figure{sphere(50, 10000, v(far, far, far))}, api.OK)
}

func TestMove(t *testing.T) {
	r, seen := source(), map[api.Errno]int{}
	for _, f := range samples() {
		for range 10 {
			by := randomPoint(r)
			want, ok := shifted(f, by)
			wantErr := api.OK
			if !ok {
				wantErr = api.ErrRange
			}
			isMoved(t, f, by, want, wantErr)
			seen[wantErr]++
		}
		isMoved(t, f, api.Vec{}, f, api.OK)
	}
	if seen[api.OK] < 500 || seen[api.ErrRange] < 500 {
		t.Error(seen)
	}
}

func TestRangeOfMove(t *testing.T) {
	for axis := range 3 {
		for _, sign := range []int{1, -1} {
			n, from := [3]int{}, [3]int{4, 5, 6}
			for beyond, want := range []api.Errno{api.OK, api.ErrRange} {
				n[axis] = sign*(far+beyond) - from[axis]
				by := v(n[0], n[1], n[2])
				for i := range 4 {
					corners := slices.Insert(p(4, 5, 6, 4, 5, 6, 4, 5, 6), i, v(4, 5, 6))
					f := api.Figure{dots(4, 5, 6), {Kind: api.ShapeDots, Corners: corners}}
					if _, e := figure.Move(f, by); e != want {
						t.Error(by, e)
					}
				}
			}
			n[axis] = sign * vector.MaxPart
			isMoved(t, api.Figure{dots(4, 5, 6)}, v(n[0], n[1], n[2]), nil, api.ErrRange)
			isMoved(t, api.Figure{dots(-4, -5, -6)}, v(n[0], n[1], n[2]), nil, api.ErrRange)
		}
	}
	// Only one corner, or only one shape, gets out of range.
	isMoved(t, api.Figure{dots(0, 0, 0, far, 0, 0)}, v(1, 0, 0), nil, api.ErrRange)
	isMoved(t, api.Figure{dots(far, 0, 0, 0, 0, 0), dots(0, 0, 0)}, v(1, 0, 0), nil, api.ErrRange)
	isMoved(t, api.Figure{dots(0, 0, 0), ring(0, 1, 1, v(0, -far, 0))}, v(0, -1, 0), nil, api.ErrRange)
}

func TestErrArgOfMove(t *testing.T) {
	for _, n := range []int{vector.MaxPart + 1, -vector.MaxPart - 1, math.MaxInt, math.MinInt} {
		for _, by := range []api.Vec{v(n, 0, 0), v(0, n, 0), v(0, 0, n), v(vector.MaxPart, 0, n)} {
			for _, f := range []api.Figure{nil, {dots(1, 2, 3)}, {dots(far, 2, 3)}, {dots()}} {
				isMoved(t, f, by, nil, api.ErrArg)
			}
		}
	}
	isMoved(t, api.Figure{dots(far, 0, 0), dots()}, v(1, 0, 0), nil, api.ErrArg)
}
