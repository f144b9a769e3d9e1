package figure_test

import (
	"math"
	"math/rand"
	"slices"
	"testing"

	"skylantern/api"
	"skylantern/figure"
	"skylantern/vector"
)

// far is the greatest coordinate.
const far = api.MaxCoord

// v returns a vector.
func v(x, y, z int) api.Vec { return api.Vec{X: x, Y: y, Z: z} }

// p returns points, from X, Y and Z by turns.
func p(n ...int) []api.Vec {
	var out []api.Vec
	for i := 0; i < len(n); i += 3 {
		out = append(out, v(n[i], n[i+1], n[i+2]))
	}
	return out
}

// The shapes of each kind.
func dots(n ...int) api.Shape { return api.Shape{Kind: api.ShapeDots, Corners: p(n...)} }
func line(many int, n ...int) api.Shape {
	return api.Shape{Kind: api.ShapeLine, Many: many, Corners: p(n...)}
}
func loop(many int, n ...int) api.Shape {
	return api.Shape{Kind: api.ShapeLoop, Many: many, Corners: p(n...)}
}
func ring(plane api.Plane, radius, step int, at api.Vec) api.Shape {
	return api.Shape{Kind: api.ShapeRing, Plane: plane, Radius: radius, Step: step, Corners: []api.Vec{at}}
}
func sphere(radius, step int, at api.Vec) api.Shape {
	return api.Shape{Kind: api.ShapeSphere, Radius: radius, Step: step, Corners: []api.Vec{at}}
}

// source returns numbers that look random and are the same in every run.
func source() *rand.Rand { return rand.New(rand.NewSource(1)) }

// randomPoint returns a point, often near others or with a coordinate at a limit.
func randomPoint(r *rand.Rand) api.Vec {
	part := func() int {
		if r.Intn(20) == 0 {
			return []int{-far, far}[r.Intn(2)]
		}
		limit := []int{2, 20, 1000, far}[r.Intn(4)]
		return r.Intn(2*limit+1) - limit
	}
	return v(part(), part(), part())
}

// randomShape returns a shape that is valid; some of its points may be out of range.
func randomShape(r *rand.Rand) api.Shape {
	s := api.Shape{Kind: api.ShapeKind(1 + r.Intn(5))}
	many := 1
	if s.Kind <= api.ShapeLoop {
		many = int(s.Kind) + r.Intn(5)
	}
	for range many {
		s.Corners = append(s.Corners, randomPoint(r))
	}
	switch s.Kind {
	case api.ShapeLine, api.ShapeLoop:
		s.Many = 1 + r.Intn([]int{3, 12, figure.MaxMany}[r.Intn(3)])
	case api.ShapeRing, api.ShapeSphere:
		s.Radius, s.Step = 1+r.Intn(12), 1+r.Intn([]int{3, 100, figure.MaxStep}[r.Intn(3)])
	}
	if s.Kind == api.ShapeRing {
		s.Plane = api.Plane(r.Intn(3))
	}
	return s
}

// randomFigure returns a figure that is valid.
func randomFigure(r *rand.Rand) api.Figure {
	var f api.Figure
	for range r.Intn(5) {
		f = append(f, randomShape(r))
	}
	return f
}

// samples returns figures that are valid: those of the chapter, others of each kind, and random ones.
func samples() []api.Figure {
	r := source()
	out := []api.Figure{
		nil, {dots(3, 0, 0, 1, 0, 0, 3, 0, 0)}, {line(2, 0, 0, 0, 3, 0, 0)}, {ring(api.PlaneXZ, 1, 10, v(0, 0, 0))}, {dots(1, 2, 3)}, greatest(),
		{loop(5, 0, 0, 0, 4, 1, -7, 4, 1, -7), sphere(3, 7, v(1, -2, 3)), dots(0, 0, 0)},
	}
	for range 300 {
		out = append(out, randomFigure(r))
	}
	return out
}

// greatest returns a figure with as many shapes as may be, which are as great as may be.
func greatest() api.Figure {
	var f api.Figure
	for i := range figure.MaxShapes {
		s := []api.Shape{line(figure.MaxMany), loop(figure.MaxMany), dots(), ring(api.PlaneYZ, figure.MaxRadius, figure.MaxStep, v(far, -far, far)), sphere(figure.MaxRadius, figure.MaxStep, v(-far, far, -far))}[i%5]
		for j := 0; i%5 < 3 && j < figure.MaxCorners; j++ {
			s.Corners = append(s.Corners, v(-far, j-far, far-i))
		}
		f = append(f, s)
	}
	return f
}

// notPoints returns vectors that are not points.
func notPoints() []api.Vec {
	var out []api.Vec
	for _, n := range []int{far + 1, -far - 1, vector.MaxPart, math.MaxInt, math.MinInt, 1 << 32, -1 << 62} {
		out = append(out, v(n, 0, 0), v(0, n, 0), v(0, 0, n), v(1, far, n))
	}
	return out
}

// repeated returns a shape whose corners are as many of one point.
func repeated(s api.Shape, many int) api.Shape {
	s.Corners = slices.Repeat(p(1, 2, 3), many)
	return s
}

// notShapes returns shapes that are not valid.
func notShapes() []api.Shape {
	out := []api.Shape{
		{}, {Kind: -1, Corners: p(0, 0, 0)}, {Corners: p(0, 0, 0)}, {Kind: 6, Corners: p(0, 0, 0)}, {Kind: math.MaxInt, Corners: p(0, 0, 0)}, {Kind: math.MinInt, Corners: p(0, 0, 0)},
		dots(), line(1), line(1, 0, 0, 0), loop(1), loop(1, 0, 0, 0), loop(1, 0, 0, 0, 1, 0, 0),
		repeated(dots(), 201), repeated(line(1), 201), repeated(loop(1), 201), repeated(dots(), 100000),
	}
	for _, n := range []int{0, 2, 3, 200} {
		out = append(out, repeated(ring(0, 1, 1, v(0, 0, 0)), n), repeated(sphere(1, 1, v(0, 0, 0)), n))
	}
	three := []int{0, 0, 0, 1, 0, 0, 0, 1, 0}
	for _, n := range []int{0, -1, figure.MaxMany + 1, math.MaxInt, math.MinInt} {
		out = append(out, line(n, three...), loop(n, three...))
	}
	for _, n := range []int{0, -1, figure.MaxRadius + 1, math.MaxInt, math.MinInt} {
		out = append(out, ring(api.PlaneXZ, n, 1, v(0, 0, 0)), sphere(n, 1, v(0, 0, 0)))
	}
	for _, n := range []int{0, -1, figure.MaxStep + 1, math.MaxInt, math.MinInt} {
		out = append(out, ring(api.PlaneYZ, 1, n, v(0, 0, 0)), sphere(1, n, v(0, 0, 0)))
	}
	for _, n := range []api.Plane{-1, 3, 4, math.MaxInt, math.MinInt} {
		out = append(out, ring(n, 1, 1, v(0, 0, 0)))
	}
	for _, bad := range notPoints() {
		out = append(out, ring(0, 1, 1, bad), sphere(1, 1, bad))
		for i := range 4 {
			for _, s := range []api.Shape{dots(three...), line(1, three...), loop(1, three...)} {
				s.Corners = slices.Insert(s.Corners, i, bad)
				out = append(out, s)
			}
		}
	}
	return append(out, withOtherParts()...)
}

// withOtherParts returns shapes that have parts of other kinds.
func withOtherParts() []api.Shape {
	var out []api.Shape
	three := []int{0, 0, 0, 1, 0, 0, 0, 1, 0}
	for _, n := range []int{1, -1, 2} {
		for _, s := range []api.Shape{dots(three...), line(1, three...), loop(1, three...), ring(api.PlaneXZ, 1, 1, v(0, 0, 0)), sphere(1, 1, v(0, 0, 0))} {
			many, radius, step, plane := s, s, s, s
			many.Many, radius.Radius, step.Step, plane.Plane = n, n, n, api.Plane(n)
			if s.Many == 0 {
				out = append(out, many)
			}
			if s.Radius == 0 {
				out = append(out, radius, step)
			}
			if s.Kind != api.ShapeRing {
				out = append(out, plane)
			}
		}
	}
	return out
}

// notFigures returns figures that are not valid.
func notFigures() []api.Figure {
	out := []api.Figure{slices.Repeat(api.Figure{dots(1, 2, 3)}, figure.MaxShapes+1), make(api.Figure, 100000), append(greatest(), dots(1, 2, 3))}
	for i, bad := range notShapes() {
		out = append(out, slices.Insert(api.Figure{dots(1, 2, 3), line(2, 1, 2, 3, 4, 5, 6)}, i%3, bad), api.Figure{bad})
	}
	return out
}

// clone returns a figure that shares nothing with another one.
func clone(f api.Figure) api.Figure {
	out := slices.Clone(f)
	for i, s := range f {
		out[i].Corners = slices.Clone(s.Corners)
	}
	return out
}

// same reports whether figures have equal shapes, by all of their parts.
func same(a, b api.Figure) bool {
	return slices.EqualFunc(a, b, func(a, b api.Shape) bool {
		type rest struct {
			kind               api.ShapeKind
			many, radius, step int
			plane              api.Plane
		}
		of := func(s api.Shape) rest { return rest{s.Kind, s.Many, s.Radius, s.Step, s.Plane} }
		return of(a) == of(b) && slices.Equal(a.Corners, b.Corners)
	})
}

// isFigure fails unless a figure and an error are those that are wanted.
func isFigure(t *testing.T, what any, got api.Figure, e api.Errno, want api.Figure, wantErr api.Errno) {
	t.Helper()
	if !same(got, want) || e != wantErr {
		t.Errorf("%v: %v %v, not %v %v", what, got, e, want, wantErr)
	}
}
