package hull_test

import (
	"math"
	"testing"

	"skylantern/api"
	"skylantern/hull"
	"skylantern/vector"
)

// P7.3

// sameArea fails unless twice the area is the one that is wanted.
func sameArea(t *testing.T, h []api.Vec, want int, wantErr api.Errno) {
	t.Helper()
	if got, e := hull.Area2(h); got != want || e != wantErr {
		t.Errorf("%d %v: %v %v, not %v %v", len(h), h, got, e, want, wantErr)
	}
}

// sameDiameter fails unless the pair and the squared diameter are those that are wanted.
func sameDiameter(t *testing.T, h []api.Vec, i, j, square int, wantErr api.Errno) {
	t.Helper()
	if gotI, gotJ, got, e := hull.Diameter2(h); gotI != i || gotJ != j || got != square || e != wantErr {
		t.Errorf("%d %v: %v %v %v %v, not %v %v %v %v", len(h), h, gotI, gotJ, got, e, i, j, square, wantErr)
	}
}

// diameter returns the first pair of corners with the greatest distance, found among all pairs.
func diameter(h []api.Vec) (i, j, square int) {
	for k, a := range h {
		for l, b := range h[k+1:] {
			if n := (a.X-b.X)*(a.X-b.X) + (a.Y-b.Y)*(a.Y-b.Y); n > square {
				i, j, square = k, k+1+l, n
			}
		}
	}
	return i, j, square
}

func TestAreaAndDiameterExamples(t *testing.T) {
	for _, c := range []struct {
		h                  []api.Vec
		area, i, j, square int
	}{
		{square, 8, 0, 2, 8}, {line, 0, 0, 1, 8}, {dot, 0, 0, 0, 0}, {triangle, 12, 1, 2, 18},
		{p(0, 0, 0, 1), 0, 0, 1, 1}, {p(-far, far), 0, 0, 0, 0},
		{greatest, 2 << 42, 0, 2, 2 << 42},
		{p(-far, -far, far, -far, far, far), 1 << 42, 0, 2, 2 << 42},
		{p(-far, -far, far-1, far-2, far, far), 2 * far, 0, 2, 2 << 42},
		{p(0, 0, 3, -4, 3, 4), 24, 1, 2, 64},
		{p(-5, 0, 0, -5, 5, 0, 0, 5), 100, 0, 2, 100},
		{p(0, 0, 1, 0, 2, 1, 2, 2, 1, 3, 0, 3), 10, 0, 4, 10},
	} {
		sameArea(t, c.h, c.area, api.OK)
		sameDiameter(t, c.h, c.i, c.j, c.square, api.OK)
	}
}

func TestAreaByCounting(t *testing.T) {
	r := source()
	for range 100 {
		h := cornersOf(randomPoints(r, 3+r.Intn(5), 5))
		inside, border := 0, 0
		for x := -5; x <= 5; x++ {
			for y := -5; y <= 5; y++ {
				switch sideOf(h, api.Vec{X: x, Y: y}) {
				case 1:
					inside++
				case 0:
					border++
				}
			}
		}
		want := 0
		if len(h) > 2 {
			want = 2*inside + border - 2 // Pick's theorem
		}
		sameArea(t, h, want, api.OK)
	}
}

func TestArea(t *testing.T) {
	for _, h := range append(hulls(), roundHull(hull.MaxPoints)) {
		want := 0
		for i := 2; i < len(h); i++ {
			want += turn(h[0], h[i-1], h[i])
		}
		sameArea(t, h, want, api.OK)
	}
}

func TestDiameter(t *testing.T) {
	for _, h := range append(hulls(), roundHull(500), roundHull(hull.MaxPoints), roundHull(hull.MaxPoints)[:hull.MaxPoints-1]) {
		i, j, square := diameter(h)
		sameDiameter(t, h, i, j, square, api.OK)
	}
}

// circle returns the corners of the hull of the points of a grid that are at a distance from a middle.
func circle(middle api.Vec, square int) []api.Vec {
	var l []api.Vec
	for x := -70; x <= 70; x++ {
		for y := -70; y <= 70; y++ {
			if x*x+y*y == square {
				l = append(l, api.Vec{X: middle.X + x, Y: middle.Y + y})
			}
		}
	}
	h, _ := hull.Hull(l)
	return h
}

func TestDiameterIsTheFirstOfManyPairs(t *testing.T) {
	r := source()
	for _, square := range []int{1, 2, 5, 25, 65, 325, 1105, 4225} {
		h := circle(api.Vec{X: 3, Y: -8}, square)
		sameDiameter(t, h, 0, len(h)/2, 4*square, api.OK)
		for range 300 {
			// Parts of the circle have the diameter at any pair of corners, at none of them, or at a pair of many that are the same.
			var part []api.Vec
			for _, c := range h {
				if r.Intn(3) > 0 {
					part = append(part, c)
				}
			}
			if len(part) > 0 {
				part = fromLeast(part)
				i, j, square := diameter(part)
				sameDiameter(t, part, i, j, square, api.OK)
			}
		}
	}
}

func TestDiameterOfHullsWithParallelEdges(t *testing.T) {
	for width := 1; width <= 6; width++ {
		for height := 1; height <= 6; height++ {
			for cut := 0; cut < 16; cut++ {
				l := p(cut&1, 0, 0, cut&1, width-cut>>1&1, 0, width, cut>>1&1, width-cut>>2&1, height, width, height-cut>>2&1, cut>>3&1, height, 0, height-cut>>3&1)
				h := cornersOf(l)
				i, j, square := diameter(h)
				sameDiameter(t, h, i, j, square, api.OK)
			}
		}
	}
}

func TestErrArgOfAreaAndDiameter(t *testing.T) {
	for _, h := range notHulls() {
		sameArea(t, h, 0, api.ErrArg)
		sameDiameter(t, h, 0, 0, 0, api.ErrArg)
	}
}

// P7.4

// sameExtent fails unless the ends are those that are wanted.
func sameExtent(t *testing.T, h []api.Vec, d api.Vec, low, high int, wantErr api.Errno) {
	t.Helper()
	if gotLow, gotHigh, e := hull.Extent(h, d); gotLow != low || gotHigh != high || e != wantErr {
		t.Errorf("%d %v %v: %v %v %v, not %v %v %v", len(h), h, d, gotLow, gotHigh, e, low, high, wantErr)
	}
}

// directions returns valid vectors.
func directions() []api.Vec {
	const most = vector.MaxPart
	out := []api.Vec{{}, {X: 1}, {X: -1}, {Y: 1}, {Y: -1}, {X: 1, Y: 1}, {X: most}, {Y: -most}, {X: most, Y: most, Z: most}, {X: -most, Y: -most, Z: -most}, {X: most, Y: -most}, {Z: 5}}
	r := source()
	for range 8 {
		out = append(out, api.Vec{X: r.Intn(2*most+1) - most, Y: r.Intn(2*most+1) - most, Z: r.Intn(2*most+1) - most})
	}
	return out
}

func TestExtentExamples(t *testing.T) {
	for _, c := range []struct {
		h               []api.Vec
		x, y, low, high int
	}{
		{square, 1, 1, 0, 4}, {square, 2, -1, -2, 4}, {square, 0, 0, 0, 0}, {square, -1, 0, -2, 0}, {square, 0, 3, 0, 6},
		{line, 1, 1, 2, 6}, {line, 2, -1, 1, 3}, {line, 1, -1, 0, 0}, {dot, 2, -1, 5, 5}, {dot, -1, 0, -5, -5}, {triangle, 2, -1, -1, 8},
		{greatest, vector.MaxPart, vector.MaxPart, -2 << 44, 2 << 44}, {p(far, far), -vector.MaxPart, -vector.MaxPart, -2 << 44, -2 << 44},
	} {
		for _, z := range []int{0, 7, vector.MaxPart, -vector.MaxPart} {
			sameExtent(t, c.h, api.Vec{X: c.x, Y: c.y, Z: z}, c.low, c.high, api.OK)
		}
	}
}

func TestExtent(t *testing.T) {
	for _, h := range append(hulls(), roundHull(hull.MaxPoints)) {
		for _, d := range directions() {
			low, high := math.MaxInt, math.MinInt
			for _, c := range h {
				n := d.X*c.X + d.Y*c.Y
				low, high = min(low, n), max(high, n)
			}
			sameExtent(t, h, d, low, high, api.OK)
		}
	}
}

func TestErrArgOfExtent(t *testing.T) {
	for _, h := range notHulls() {
		sameExtent(t, h, api.Vec{X: 1, Y: 1}, 0, 0, api.ErrArg)
	}
	for _, n := range []int{vector.MaxPart + 1, -vector.MaxPart - 1, math.MaxInt, math.MinInt} {
		for _, d := range []api.Vec{{X: n}, {Y: n}, {Z: n}, {X: 1, Y: -1, Z: n}} {
			for _, h := range [][]api.Vec{square, line, dot, nil} {
				sameExtent(t, h, d, 0, 0, api.ErrArg)
			}
		}
	}
}

// P7.6

func TestAreaIsZeroJustForAtMostTwoCorners(t *testing.T) {
	for _, l := range samples() {
		h, _ := hull.Hull(l)
		if n, e := hull.Area2(h); e != api.OK || n < 0 || (n == 0) != (len(h) <= 2) {
			t.Error(h, n, e)
		}
	}
}

func TestExtentsOfOppositeDirections(t *testing.T) {
	for _, h := range hulls() {
		for _, d := range directions() {
			low, high, _ := hull.Extent(h, d)
			sameExtent(t, h, api.Vec{X: -d.X, Y: -d.Y, Z: -d.Z}, -high, -low, api.OK)
		}
	}
}
