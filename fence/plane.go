package fence

import (
	"skylantern/api"
	"skylantern/vector"
)

// The functions of this file get points, or differences of them, that have been checked, so layer 6 has no errors for them.

// flat returns a point with the height 0.
func flat(p api.Vec) api.Vec { return api.Vec{X: p.X, Y: p.Y} }

// twice returns a point of the plane with doubled coordinates.
func twice(p api.Vec) api.Vec { return api.Vec{X: 2 * p.X, Y: 2 * p.Y} }

// turn returns 1, 0 or -1 if the way from a over b to c turns left, not at all, or right.
func turn(a, b, c api.Vec) int {
	out, _ := vector.Turn(a, b, c)
	return out
}

// area2 returns twice the area of the triangle of the origin, a and b, which is negative if the way along them turns right.
func area2(a, b api.Vec) int {
	product, _ := vector.Cross(a, b)
	return product.Z
}

// way returns the way from a to b, seen from above.
func way(a, b api.Vec) api.Vec {
	out, _ := vector.Sub(flat(b), flat(a))
	return out
}

// dot returns the scalar product of two ways.
func dot(a, b api.Vec) int {
	out, _ := vector.Dot(a, b)
	return out
}

// box returns the smallest and the greatest parts of some points.
func box(l []api.Vec) (low, high api.Vec) {
	low, high, _ = vector.Box(l)
	return low, high
}

// overlap reports whether the rectangles with the corners a and b, and c and d, have a common point, seen from above.
func overlap(a, b, c, d api.Vec) bool {
	return min(a.X, b.X) <= max(c.X, d.X) && min(c.X, d.X) <= max(a.X, b.X) &&
		min(a.Y, b.Y) <= max(c.Y, d.Y) && min(c.Y, d.Y) <= max(a.Y, b.Y)
}

// meet reports whether the edges from a to b and from c to d have a common point.
func meet(a, b, c, d api.Vec) bool {
	// Most edges are far from each other, which their rectangles show at once.
	return overlap(a, b, c, d) && turn(a, b, c)*turn(a, b, d) <= 0 && turn(c, d, a)*turn(c, d, b) <= 0
}

// cross reports whether the edges from a to b and from c to d have a common point that is an end of neither, each going to the other side of the other one.
func cross(a, b, c, d api.Vec) bool {
	return overlap(a, b, c, d) && turn(a, b, c)*turn(a, b, d) < 0 && turn(c, d, a)*turn(c, d, b) < 0
}

// isOn reports whether a point is on the edge from a to b.
func isOn(a, b, p api.Vec) bool { return overlap(a, b, p, p) && turn(a, b, p) == 0 }
