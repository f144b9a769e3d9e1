package hull

import (
	"skylantern/api"
	"skylantern/vector"
)

// The functions of this file get points, or differences of them, that have been checked, so layer 6 has no errors for them.

// flat returns a point with the height 0.
func flat(p api.Vec) api.Vec { return api.Vec{X: p.X, Y: p.Y} }

// turn returns 1, 0 or -1 if the way from a over b to c turns left, not at all, or right.
func turn(a, b, c api.Vec) int {
	out, _ := vector.Turn(a, b, c)
	return out
}

// area2 returns twice the area of the triangle of the origin, a and b, which is negative if the way along them turns right.
func area2(a, b api.Vec) int {
	product, _ := vector.Cross(a, b)
	return product.Z
}

// distance2 returns the squared distance of two points.
func distance2(a, b api.Vec) int {
	out, _ := vector.Distance2(a, b)
	return out
}

// dot returns the scalar product of a direction and a point.
func dot(direction, p api.Vec) int {
	out, _ := vector.Dot(direction, p)
	return out
}

// way returns the way from the corner with an index to the next one.
func way(h []api.Vec, i int) api.Vec {
	out, _ := vector.Sub(after(h, i), h[i])
	return out
}

// sideOfLine returns 0 if a point is on the line from a to b, and -1 if not; b is not before a.
func sideOfLine(a, b, p api.Vec) int {
	if turn(a, b, p) == 0 && vector.Compare(a, p) <= 0 && vector.Compare(p, b) <= 0 {
		return 0
	}
	return -1
}
