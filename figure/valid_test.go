package figure_test

import (
	"math"
	"slices"
	"testing"

	"skylantern/api"
	"skylantern/figure"
)

// P9.1

func TestLimits(t *testing.T) {
	got := [...]int{figure.MaxShapes, figure.MaxCorners, figure.MaxPoints, figure.MaxMany, figure.MaxRadius, figure.MaxStep}
	if want := [...]int{50, 200, 4096, 500, 50, 10000}; got != want {
		t.Error(got)
	}
}

func TestValid(t *testing.T) {
	for _, f := range samples() {
		if !figure.Valid(f) {
			t.Error(f)
		}
	}
	for _, s := range []api.Shape{
		dots(0, 0, 0), dots(far, -far, far, -far, far, -far), line(1, 0, 0, 0, 0, 0, 0), line(500, -far, -far, -far, far, far, far), loop(1, 0, 0, 0, 0, 0, 0, 0, 0, 0), loop(500, far, 0, 0, 0, far, 0, 0, 0, far),
		ring(api.PlaneXY, 1, 1, v(0, 0, 0)), ring(api.PlaneXZ, 50, 10000, v(far, far, far)), ring(api.PlaneYZ, 50, 1, v(-far, -far, -far)), sphere(1, 10000, v(far, far, far)), sphere(50, 10000, v(0, 0, 0)),
		repeated(dots(), 200), repeated(line(1), 200), repeated(loop(1), 200), repeated(line(1), 2), repeated(loop(1), 3), repeated(dots(), 1),
	} {
		if !figure.Valid(api.Figure{s}) || !figure.Valid(slices.Repeat(api.Figure{s}, figure.MaxShapes)) {
			t.Error(s)
		}
	}
	for _, f := range []api.Figure{nil, {}} {
		if !figure.Valid(f) {
			t.Error(f)
		}
	}
}

func TestFiguresThatAreNotValid(t *testing.T) {
	for _, f := range notFigures() {
		if figure.Valid(f) {
			t.Error("Valid", f)
		}
		if l, e := figure.Points(f); len(l) > 0 || e != api.ErrArg {
			t.Error("Points", f, l, e)
		}
		if text, e := figure.Text(f); text != "" || e != api.ErrArg {
			t.Error("Text", f, text, e)
		}
		got, e := figure.Move(f, v(1, 2, 3))
		isFigure(t, f, got, e, nil, api.ErrArg)
		if !figure.Equal(f, clone(f)) {
			t.Error("Equal", f)
		}
	}
}

// variants returns shapes that differ from another one in one part.
func variants(s api.Shape) []api.Shape {
	var out []api.Shape
	for _, n := range []int{1, -1, math.MinInt} {
		kind, many, radius, step, plane := s, s, s, s, s
		kind.Kind += api.ShapeKind(n)
		many.Many += n
		radius.Radius += n
		step.Step += n
		plane.Plane += api.Plane(n)
		out = append(out, kind, many, radius, step, plane)
		for i, c := range s.Corners {
			for _, other := range []api.Vec{v(c.X+n, c.Y, c.Z), v(c.X, c.Y+n, c.Z), v(c.X, c.Y, c.Z+n)} {
				with := s
				with.Corners = slices.Clone(s.Corners)
				with.Corners[i] = other
				out = append(out, with)
			}
		}
	}
	longer, shorter := s, s
	longer.Corners = append(slices.Clone(s.Corners), v(0, 0, 0))
	out = append(out, longer)
	if len(s.Corners) > 0 {
		shorter.Corners = s.Corners[1:]
		out = append(out, shorter)
		shorter.Corners = s.Corners[:len(s.Corners)-1]
		out = append(out, shorter)
	}
	return out
}

func TestEqual(t *testing.T) {
	shapes := []api.Shape{{}, dots(1, 2, 3), dots(1, 2, 3, 4, 5, 6), line(2, 1, 2, 3, 4, 5, 6), loop(2, 1, 2, 3, 4, 5, 6, 7, 8, 9), ring(api.PlaneXZ, 3, 4, v(1, 2, 3)), sphere(3, 4, v(1, 2, 3)), {Kind: 9, Many: -1, Radius: 99, Step: -7, Plane: 8, Corners: p(1<<40, 0, 0)}}
	for _, s := range shapes {
		for _, other := range variants(s) {
			for i := range 3 {
				rest := api.Figure{dots(0, 0, 0), sphere(1, 1, v(0, 0, 0))}
				f, g := slices.Insert(clone(rest), i, s), slices.Insert(clone(rest), i, other)
				if figure.Equal(f, g) || figure.Equal(g, f) || !figure.Equal(f, clone(f)) || !figure.Equal(g, clone(g)) {
					t.Error(f, g)
				}
			}
		}
	}
	for i, s := range shapes {
		for j, other := range shapes {
			if figure.Equal(api.Figure{s}, api.Figure{other}) != (i == j) || figure.Equal(api.Figure{s, other}, api.Figure{other, s}) != (i == j) {
				t.Error(s, other)
			}
		}
		if figure.Equal(api.Figure{s}, nil) || figure.Equal(nil, api.Figure{s}) || figure.Equal(api.Figure{s}, api.Figure{s, s}) || figure.Equal(api.Figure{s, s}, api.Figure{s}) {
			t.Error(s)
		}
	}
}

func TestEqualTakesNilForEmpty(t *testing.T) {
	none, empty := api.Shape{Kind: api.ShapeDots}, api.Shape{Kind: api.ShapeDots, Corners: []api.Vec{}}
	if !figure.Equal(nil, api.Figure{}) || !figure.Equal(nil, nil) || !figure.Equal(api.Figure{none}, api.Figure{empty}) || !figure.Equal(api.Figure{empty}, api.Figure{none}) {
		t.Error("not equal")
	}
}
