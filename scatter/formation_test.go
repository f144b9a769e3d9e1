package scatter_test

import (
	"math"
	"slices"
	"testing"

	"skylantern/api"
	"skylantern/figure"
	"skylantern/scatter"
)

// P10.3

// The shapes of figures.
func dots(l []api.Vec) api.Shape { return api.Shape{Kind: api.ShapeDots, Corners: l} }
func line(many int, l []api.Vec) api.Shape {
	return api.Shape{Kind: api.ShapeLine, Many: many, Corners: l}
}
func ring(plane api.Plane, radius, step int, at api.Vec) api.Shape {
	return api.Shape{Kind: api.ShapeRing, Plane: plane, Radius: radius, Step: step, Corners: []api.Vec{at}}
}
func sphere(radius, step int, at api.Vec) api.Shape {
	return api.Shape{Kind: api.ShapeSphere, Radius: radius, Step: step, Corners: []api.Vec{at}}
}

func TestFormationExamples(t *testing.T) {
	f := api.Figure{line(4, row(0, 8))}
	isFormation(t, f, 3, row(0, 4, 8), api.OK)
	isFormation(t, f, 0, nil, api.OK)
	isFormation(t, f, 1, row(0), api.OK)
	isFormation(t, f, 2, row(0, 8), api.OK)
	isFormation(t, f, 4, row(0, 2, 4, 8), api.OK)
	isFormation(t, f, 5, row(0, 2, 4, 6, 8), api.OK)
	isFormation(t, f, 6, nil, api.ErrRange)
	isFormation(t, f, -1, nil, api.ErrArg)
	// The points of the figure are in order, each one once, whatever the shapes are.
	f = append(f, dots(row(4, -8, 0)))
	isFormation(t, f, 2, row(-8, 8), api.OK)
	isFormation(t, f, 3, row(-8, 0, 8), api.OK)
	isFormation(t, f, 6, row(-8, 0, 2, 4, 6, 8), api.OK)
	isFormation(t, f, 7, nil, api.ErrRange)
	isFormation(t, nil, 0, nil, api.OK)
	isFormation(t, api.Figure{}, 1, nil, api.ErrRange)
}

func TestFormation(t *testing.T) {
	r := source()
	figures := []api.Figure{{ring(api.PlaneXY, 5, 10, v(1, 2, 3))}, {ring(api.PlaneXZ, 1, 10, v(0, 0, 0))}, {sphere(3, 100, v(0, 0, 500))}, {ring(api.PlaneYZ, 7, 3, v(far-1, far-21, far-21)), dots(p(far, far, far))}}
	for range 100 {
		figures = append(figures, api.Figure{dots(randomPoints(r, 1+r.Intn(9))), line(1+r.Intn(9), randomPoints(r, 2+r.Intn(3)))})
	}
	for _, f := range figures {
		l, e := figure.Points(f)
		if e != api.OK {
			t.Fatal(f, e)
		}
		for many := 0; many <= len(l); many += 1 + r.Intn(9) {
			isFormation(t, f, many, set(picked(l, many)), api.OK)
		}
		isFormation(t, f, len(l), l, api.OK)
		isFormation(t, f, len(l)+1, nil, api.ErrRange)
		isFormation(t, f, math.MaxInt, nil, api.ErrRange)
	}
}

// full returns a figure with MaxPoints points.
func full() api.Figure {
	var f api.Figure
	for l := range slices.Chunk(plate(scatter.MaxPoints), figure.MaxCorners) {
		f = append(f, dots(l))
	}
	return f
}

func TestFormationOfManyPoints(t *testing.T) {
	f, l := full(), plate(scatter.MaxPoints)
	isFormation(t, f, scatter.MaxPoints, l, api.OK)
	isFormation(t, f, 10, set(picked(l, 10)), api.OK)
	isFormation(t, f, scatter.MaxPoints+1, nil, api.ErrRange)
	f = append(f, dots(p(0, 0, 1)))
	for _, many := range []int{0, 1, scatter.MaxPoints, scatter.MaxPoints + 1, math.MaxInt} {
		isFormation(t, f, many, nil, api.ErrFull)
	}
	isFormation(t, f, -1, nil, api.ErrArg)
}

func TestFormationErrors(t *testing.T) {
	notValid := []api.Figure{
		{{}}, {dots(nil)}, {dots(row(0)), line(0, row(0, 1))}, {dots(row(far + 1))}, {sphere(51, 1, v(0, 0, 0))}, {ring(3, 1, 1, v(0, 0, 0))},
		slices.Repeat(api.Figure{dots(row(0))}, figure.MaxShapes+1), append(full(), dots(p(0, 0, 1)), dots(nil)), {sphere(1, 1, v(far, 0, 0)), dots(nil)},
	}
	many := []int{0, 1, 7, scatter.MaxPoints + 1, math.MaxInt, -1, math.MinInt}
	for _, n := range many {
		for _, f := range notValid {
			isFormation(t, f, n, nil, api.ErrArg)
		}
		for _, f := range []api.Figure{{sphere(1, 1, v(far, 0, 0))}, {dots(row(0)), ring(api.PlaneYZ, 1, 1, v(0, 0, -far))}, {sphere(40, 1, v(0, 0, 0)), ring(api.PlaneXY, 2, 1, v(0, far-1, 0))}} {
			want := api.ErrRange
			if n < 0 {
				want = api.ErrArg
			}
			isFormation(t, f, n, nil, want)
		}
	}
	isFormation(t, api.Figure{sphere(40, 1, v(0, 0, 0))}, 1, nil, api.ErrFull)
	isFormation(t, api.Figure{sphere(40, 1, v(0, 0, 0))}, math.MinInt, nil, api.ErrArg)
	isFormation(t, nil, -1, nil, api.ErrArg)
}
