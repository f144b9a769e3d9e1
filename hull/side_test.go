package hull_test

import (
	"testing"

	"skylantern/api"
	"skylantern/hull"
)

// P7.2

// sameSide fails unless the side of a point is the one that is wanted.
func sameSide(t *testing.T, h []api.Vec, q api.Vec, want int, wantErr api.Errno) {
	t.Helper()
	if got, e := hull.Side(h, q); got != want || e != wantErr {
		t.Errorf("%v %v: %v %v, not %v %v", h, q, got, e, want, wantErr)
	}
}

func TestSideExamples(t *testing.T) {
	for _, c := range []struct {
		h       []api.Vec
		x, y, n int
	}{
		{square, 1, 1, 1}, {square, 2, 1, 0}, {square, 3, 1, -1},
		{square, 1, 0, 0}, {square, 1, 2, 0}, {square, 0, 1, 0}, {square, 0, 0, 0}, {square, 2, 2, 0}, {square, 4, 0, -1}, {square, -1, 0, -1}, {square, 1, -1, -1}, {square, 0, 3, -1}, {square, 3, 3, -1},
		{line, 2, 2, 0}, {line, 1, 1, 0}, {line, 3, 3, 0}, {line, 0, 0, -1}, {line, 4, 4, -1}, {line, 2, 1, -1}, {line, 2, 3, -1},
		{p(3, 1, 3, 5), 3, 1, 0}, {p(3, 1, 3, 5), 3, 4, 0}, {p(3, 1, 3, 5), 3, 0, -1}, {p(3, 1, 3, 5), 3, 6, -1}, {p(3, 1, 3, 5), 2, 3, -1}, {p(3, 1, 3, 5), 4, 3, -1},
		{p(1, 5, 3, 1), 2, 3, 0}, {p(1, 5, 3, 1), 0, 7, -1}, {p(1, 5, 3, 1), 4, -1, -1},
		{dot, 5, 5, 0}, {dot, 5, 6, -1}, {dot, 5, 4, -1}, {dot, 4, 5, -1}, {dot, 6, 5, -1},
		{greatest, 0, 0, 1}, {greatest, far, far, 0}, {greatest, far - 1, 1 - far, 1}, {greatest, -far, 0, 0},
		{p(-far, -far, far, far), far - 1, far - 1, 0}, {p(-far, -far, far, far), far - 1, far, -1},
		{p(-far, -far, far, far-1, far, far), far - 1, far - 1, 0}, {p(-far, -far, far, far-1, far, far), far - 1, far - 2, -1}, {p(-far, -far, far-1, far-2, far, far), far - 1, far - 1, 0},
		{p(-far, -far, far, far-2, far, far), far - 1, far - 2, 1},
	} {
		for _, z := range []int{0, 1, far, -far} {
			sameSide(t, c.h, api.Vec{X: c.x, Y: c.y, Z: z}, c.n, api.OK)
		}
	}
}

func TestSide(t *testing.T) {
	r := source()
	for range 150 {
		h := cornersOf(randomPoints(r, 1+r.Intn(7), 1+r.Intn(5)))
		for x := -6; x <= 6; x++ {
			for y := -6; y <= 6; y++ {
				q := api.Vec{X: x, Y: y, Z: r.Intn(far)}
				sameSide(t, h, q, sideOf(h, q), api.OK)
			}
		}
	}
}

func TestSideForALargeHull(t *testing.T) {
	h := roundHull(hull.MaxPoints)
	for i := 0; i < len(h); i += 97 {
		a, b, c := h[i], h[(i+1)%len(h)], h[(i+100)%len(h)]
		sameSide(t, h, a, 0, api.OK)
		sameSide(t, h, api.Vec{X: (a.X + c.X) / 2, Y: (a.Y + c.Y) / 2, Z: 1}, 1, api.OK)
		// To the right of an edge from its first corner is outside.
		sameSide(t, h, api.Vec{X: a.X + b.Y - a.Y, Y: a.Y - b.X + a.X}, -1, api.OK)
	}
}

func TestErrArgOfSide(t *testing.T) {
	for _, h := range notHulls() {
		sameSide(t, h, api.Vec{X: 1, Y: 1}, 0, api.ErrArg)
	}
	for _, bad := range notPoints() {
		for _, h := range [][]api.Vec{square, line, dot} {
			sameSide(t, h, bad, 0, api.ErrArg)
		}
		sameSide(t, nil, bad, 0, api.ErrArg)
	}
}

// P7.6

func TestNoPointIsOutsideOfTheHullOfPoints(t *testing.T) {
	for _, l := range samples() {
		h, _ := hull.Hull(l)
		for _, q := range l {
			if side, e := hull.Side(h, q); side < 0 || e != api.OK {
				t.Error(l, q, side, e)
			}
		}
		for _, c := range h {
			sameSide(t, h, c, 0, api.OK)
		}
	}
}
