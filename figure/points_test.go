package figure_test

import (
	"slices"
	"testing"

	"skylantern/api"
	"skylantern/figure"
	"skylantern/vector"
)

// P9.2

// floor returns the greatest integer that is at most n / d; d is positive.
func floor(n, d int) int {
	out := n / d
	if out*d > n {
		out--
	}
	return out
}

// onLine adds the points between two corners, whose parts are the floors of exact ones and a half.
func onLine(set map[api.Vec]bool, a, b api.Vec, many int) {
	for num := 0; num <= many; num++ {
		part := func(from, to int) int { return floor(2*(from*(many-num)+to*num)+many, 2*many) }
		set[v(part(a.X, b.X), part(a.Y, b.Y), part(a.Z, b.Z))] = true
	}
}

// round adds the points about a corner whose steps along some axes are at the distance of a radius.
func round(set map[api.Vec]bool, s api.Shape, axes ...api.Vec) {
	most, at := s.Radius+2, s.Corners[0]
	if len(axes) == 2 {
		axes = append(axes, v(0, 0, 0))
	}
	for i := -most; i <= most; i++ {
		for j := -most; j <= most; j++ {
			for k := -most; k <= most; k++ {
				if axes[2] == v(0, 0, 0) && k != 0 {
					continue
				}
				if square := i*i + j*j + k*k; square < s.Radius*s.Radius-s.Radius || square > s.Radius*s.Radius+s.Radius {
					continue
				}
				to := at
				for a, n := range [3]int{i, j, k} {
					to = v(to.X+n*s.Step*axes[a].X, to.Y+n*s.Step*axes[a].Y, to.Z+n*s.Step*axes[a].Z)
				}
				set[to] = true
			}
		}
	}
}

// pointsOf returns the points of a valid figure, or the error, by the definitions.
func pointsOf(f api.Figure) ([]api.Vec, api.Errno) {
	set := map[api.Vec]bool{}
	x, y, z := v(1, 0, 0), v(0, 1, 0), v(0, 0, 1)
	for _, s := range f {
		for i, a := range s.Corners {
			switch next := s.Corners[(i+1)%len(s.Corners)]; {
			case s.Kind == api.ShapeDots:
				set[a] = true
			case s.Kind == api.ShapeLoop || s.Kind == api.ShapeLine && i+1 < len(s.Corners):
				onLine(set, a, next, s.Many)
			case s.Kind == api.ShapeRing:
				axes := [][]api.Vec{{x, y}, {x, z}, {y, z}}[s.Plane]
				round(set, s, axes...)
			case s.Kind == api.ShapeSphere:
				round(set, s, x, y, z)
			}
		}
	}
	var out []api.Vec
	for p := range set {
		if !vector.Point(p) {
			return nil, api.ErrRange
		}
		out = append(out, p)
	}
	if len(out) > figure.MaxPoints {
		return nil, api.ErrFull
	}
	slices.SortFunc(out, vector.Compare)
	return out, api.OK
}

// isPoints fails unless the points of a figure, and the error, are those that are wanted.
func isPoints(t *testing.T, f api.Figure, want []api.Vec, wantErr api.Errno) {
	t.Helper()
	if l, e := figure.Points(f); !slices.Equal(l, want) || e != wantErr {
		t.Errorf("%v: %v %v, not %v %v", f, l, e, want, wantErr)
	}
}

func TestPointsExamples(t *testing.T) {
	for _, c := range []struct {
		f    api.Figure
		want []api.Vec
	}{
		{nil, nil},
		{api.Figure{}, nil},
		{api.Figure{dots(3, 0, 0, 1, 0, 0, 3, 0, 0)}, p(1, 0, 0, 3, 0, 0)},
		{api.Figure{line(2, 0, 0, 0, 3, 0, 0)}, p(0, 0, 0, 2, 0, 0, 3, 0, 0)},
		{api.Figure{line(2, 3, 0, 0, 0, 0, 0)}, p(0, 0, 0, 2, 0, 0, 3, 0, 0)},
		{api.Figure{line(2, 0, 0, 0, 0, 0, -3)}, p(0, 0, -3, 0, 0, -1, 0, 0, 0)},
		{api.Figure{line(1, 5, 5, 5, 5, 5, 5)}, p(5, 5, 5)},
		{api.Figure{line(3, 0, 0, 0, 3, -6, 1)}, p(0, 0, 0, 1, -2, 0, 2, -4, 1, 3, -6, 1)},
		{api.Figure{line(1, 0, 0, 0, 9, 0, 0, 0, 9, 0)}, p(0, 0, 0, 0, 9, 0, 9, 0, 0)},
		{api.Figure{line(2, 0, 0, 0, 4, 0, 0, 4, 2, 0)}, p(0, 0, 0, 2, 0, 0, 4, 0, 0, 4, 1, 0, 4, 2, 0)},
		{api.Figure{loop(2, 0, 0, 0, 4, 0, 0, 4, 2, 0)}, p(0, 0, 0, 2, 0, 0, 2, 1, 0, 4, 0, 0, 4, 1, 0, 4, 2, 0)},
		{api.Figure{loop(1, 2, 2, 2, 1, 1, 1, 0, 0, 0)}, p(0, 0, 0, 1, 1, 1, 2, 2, 2)},
		{api.Figure{ring(api.PlaneXZ, 1, 10, v(0, 0, 0))}, p(-10, 0, -10, -10, 0, 0, -10, 0, 10, 0, 0, -10, 0, 0, 0, 0, 0, 10, 10, 0, -10, 10, 0, 0, 10, 0, 10)},
		{api.Figure{ring(api.PlaneXY, 1, 3, v(5, 6, 7))}, p(2, 3, 7, 2, 6, 7, 2, 9, 7, 5, 3, 7, 5, 6, 7, 5, 9, 7, 8, 3, 7, 8, 6, 7, 8, 9, 7)},
		{api.Figure{ring(api.PlaneYZ, 1, 3, v(5, 6, 7))}, p(5, 3, 4, 5, 3, 7, 5, 3, 10, 5, 6, 4, 5, 6, 7, 5, 6, 10, 5, 9, 4, 5, 9, 7, 5, 9, 10)},
		{api.Figure{dots(2, 0, 0), line(1, 3, 0, 0, 1, 0, 0), dots(2, 0, -1, 3, 0, 0)}, p(1, 0, 0, 2, 0, -1, 2, 0, 0, 3, 0, 0)},
	} {
		isPoints(t, c.f, c.want, api.OK)
		want, e := pointsOf(c.f)
		if !slices.Equal(want, c.want) || e != api.OK {
			t.Error(c.f, want, e)
		}
	}
}

func TestPoints(t *testing.T) {
	seen := map[api.Errno]int{}
	for _, f := range samples() {
		want, e := pointsOf(f)
		isPoints(t, f, want, e)
		seen[e]++
	}
	r := source()
	for range 100 {
		f := api.Figure{randomShape(r), sphere(1+r.Intn(20), 1, v(0, 0, 0))}
		want, e := pointsOf(f)
		isPoints(t, f, want, e)
		seen[e]++
	}
	if len(seen) != 3 || seen[api.OK] < 200 || seen[api.ErrRange] < 20 || seen[api.ErrFull] < 5 {
		t.Error(seen)
	}
}

func TestPointsOfAllRadii(t *testing.T) {
	for radius := 1; radius <= figure.MaxRadius; radius++ {
		for plane := api.PlaneXY; plane <= api.PlaneYZ; plane++ {
			f := api.Figure{ring(plane, radius, 1+radius*int(plane), v(1, 2, 3))}
			want, e := pointsOf(f)
			isPoints(t, f, want, e)
			if e != api.OK {
				t.Error(radius, e)
			}
		}
		f := api.Figure{sphere(radius, radius, v(-3, -2, -1))}
		want, e := pointsOf(f)
		isPoints(t, f, want, e)
		if (e == api.ErrFull) != (radius > 17) {
			t.Error(radius, e)
		}
	}
}

func TestPointsOfAllParts(t *testing.T) {
	for many := 1; many <= figure.MaxMany; many++ {
		for _, f := range []api.Figure{{line(many, 0, 0, 0, 7, -100, 999)}, {line(many, far, -far, 1-far, -far, far, far)}, {loop(many, 1, 2, 3, -4, -5, -6, 0, far, -far)}} {
			want, e := pointsOf(f)
			isPoints(t, f, want, e)
			if e != api.OK {
				t.Error(f, e)
			}
		}
	}
}

func TestRangeOfPoints(t *testing.T) {
	for _, c := range []struct{ radius, step int }{{1, 1}, {2, 1}, {3, 7}, {50, 10000}, {50, 1}, {1, 10000}, {17, 10000}} {
		out := c.radius * c.step
		for axis := range 3 {
			for _, sign := range []int{1, -1} {
				for beyond := range 2 {
					n := [3]int{}
					n[axis] = sign * (far - out + beyond)
					at := v(n[0], n[1], n[2])
					want := api.OK
					if beyond > 0 {
						want = api.ErrRange
					}
					if c.radius <= 17 || want != api.OK {
						if _, e := figure.Points(api.Figure{sphere(c.radius, c.step, at)}); e != want {
							t.Error(c, at, e)
						}
					}
					// A ring does not leave its plane.
					for plane, across := range []int{2, 1, 0} {
						want := want
						if axis == across {
							want = api.OK
						}
						if _, e := figure.Points(api.Figure{ring(api.Plane(plane), c.radius, c.step, at)}); e != want {
							t.Error(c, plane, at, e)
						}
					}
				}
			}
		}
	}
	isPoints(t, api.Figure{ring(api.PlaneYZ, 1, 1, v(far, 0, 1-far))}, p(far, -1, -far, far, -1, 1-far, far, -1, 2-far, far, 0, -far, far, 0, 1-far, far, 0, 2-far, far, 1, -far, far, 1, 1-far, far, 1, 2-far), api.OK)
	isPoints(t, api.Figure{line(1, -far, -far, -far, far, far, far)}, p(-far, -far, -far, far, far, far), api.OK)
}

// full returns a figure with MaxPoints points, many of them in several shapes: eight lines of 501, and the last shape but one.
func full() api.Figure {
	var f api.Figure
	for i := range 9 {
		f = append(f, line(500, 0, i%8, 0, 500, i%8, 0))
	}
	return append(f, line(1, 3, 3, 0, 4, 4, 0), loop(5, 0, 0, 0, 5, 0, 0, 10, 0, 0), line(87, 0, 0, 9, 87, 0, 9), dots(5, 5, 0, 7, 7, 0))
}

func TestManyPoints(t *testing.T) {
	f := full()
	want, e := pointsOf(f)
	if len(want) != figure.MaxPoints || e != api.OK {
		t.Fatal(len(want), e)
	}
	isPoints(t, f, want, api.OK)
	isPoints(t, slices.Repeat(f, 3), want, api.OK)
	for i := range len(f) + 1 {
		isPoints(t, slices.Insert(clone(f), i, dots(0, 0, 8)), nil, api.ErrFull)
		isPoints(t, slices.Insert(clone(f), i, dots(1, 1, 0)), want, api.OK)
	}
	f[11].Many, f[11].Corners[1] = 88, v(88, 0, 9)
	isPoints(t, f, nil, api.ErrFull)
	isPoints(t, slices.Repeat(api.Figure{sphere(50, 10000, v(0, 0, 0))}, 50), nil, api.ErrFull)
}

func TestPointsOfManyShapesThatAreOne(t *testing.T) {
	f := slices.Repeat(api.Figure{repeated(loop(figure.MaxMany), figure.MaxCorners)}, figure.MaxShapes)
	isPoints(t, f, p(1, 2, 3), api.OK)
}

func TestErrorsOfPointsInOrder(t *testing.T) {
	many, outside, bad := sphere(50, 1, v(0, 0, 0)), sphere(1, 1, v(0, far, 0)), dots()
	isPoints(t, api.Figure{many, outside}, nil, api.ErrRange)
	isPoints(t, api.Figure{outside, many}, nil, api.ErrRange)
	isPoints(t, api.Figure{dots(1, 2, 3), outside}, nil, api.ErrRange)
	isPoints(t, api.Figure{many, dots(1, 2, 3)}, nil, api.ErrFull)
	isPoints(t, api.Figure{many, outside, bad}, nil, api.ErrArg)
	isPoints(t, api.Figure{bad, outside, many}, nil, api.ErrArg)
	isPoints(t, api.Figure{sphere(50, 1, v(far, 0, 0))}, nil, api.ErrRange)
}
