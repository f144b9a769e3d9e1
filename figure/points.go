package figure

import (
	"iter"
	"slices"

	"skylantern/api"
	"skylantern/vector"
)

// The functions of this file get shapes that are valid, so layer 6 has no errors for their corners.

// points goes over the points of a shape in range; some of them may come more than once.
func points(s api.Shape) iter.Seq[api.Vec] {
	switch s.Kind {
	case api.ShapeLine:
		return onLines(s.Corners, s.Many)
	case api.ShapeLoop:
		return onLines(slices.Concat(s.Corners, s.Corners[:1]), s.Many)
	case api.ShapeRing, api.ShapeSphere:
		return around(s)
	}
	return slices.Values(s.Corners)
}

// onLines goes over the ends of the parts, as many for each one, of the lines from corner to corner.
func onLines(corners []api.Vec, many int) iter.Seq[api.Vec] {
	return func(yield func(api.Vec) bool) {
		for i, to := range corners[1:] {
			for num := range many + 1 {
				p, _ := vector.Between(corners[i], to, num, many)
				if !yield(p) {
					return
				}
			}
		}
	}
}

// around goes over the points of a ring or a sphere.
func around(s api.Shape) iter.Seq[api.Vec] {
	return func(yield func(api.Vec) bool) {
		most := reach(s)
		for x := -most.X; x <= most.X; x++ {
			for y := -most.Y; y <= most.Y; y++ {
				for z := -most.Z; z <= most.Z; z++ {
					steps := api.Vec{X: x, Y: y, Z: z}
					if isRound(steps, s.Radius) && !yield(after(s, steps)) {
						return
					}
				}
			}
		}
	}
}

// reach returns how many steps a ring or a sphere goes along each axis, in both directions. A further step would be more than r r + r, as (r + 1) (r + 1) is.
func reach(s api.Shape) api.Vec {
	r := s.Radius
	switch {
	case s.Kind == api.ShapeSphere:
		return api.Vec{X: r, Y: r, Z: r}
	case s.Plane == api.PlaneXY:
		return api.Vec{X: r, Y: r}
	case s.Plane == api.PlaneXZ:
		return api.Vec{X: r, Z: r}
	}
	return api.Vec{Y: r, Z: r}
}

// isRound reports whether some steps along the axes lead to a ring or a sphere.
func isRound(steps api.Vec, radius int) bool {
	square, _ := vector.Length2(steps)
	return square >= radius*radius-radius && square <= radius*radius+radius
}

// after returns the point of a ring or a sphere in range after some steps from its corner.
func after(s api.Shape, steps api.Vec) api.Vec {
	by, _ := vector.Scale(steps, s.Step)
	p, _ := moved(s.Corners[0], by)
	return p
}

// inRange reports whether the points of a shape are points of layer 6. Those of lines are between corners, and rings and spheres reach to all sides of their boxes.
func inRange(s api.Shape) bool {
	for _, step := range [...]int{s.Step, -s.Step} {
		by, _ := vector.Scale(reach(s), step)
		if _, ok := movedAll(s.Corners, by); !ok {
			return false
		}
	}
	return true
}
