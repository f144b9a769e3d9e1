package scatter

import (
	"math"
	"slices"

	"skylantern/api"
	"skylantern/vector"
)

// beyond stands for the squared distance to the nearest one of no points: it is greater than that of any two points.
const beyond = math.MaxInt

// arePoints reports whether a list has at most MaxPoints vectors, all of them points.
func arePoints(l []api.Vec) bool {
	notPoint := func(v api.Vec) bool { return !vector.Point(v) }
	return len(l) <= MaxPoints && !slices.ContainsFunc(l, notPoint)
}

// isSet reports whether a list is a set of points: points in strictly increasing order.
func isSet(l []api.Vec) bool {
	if !arePoints(l) {
		return false
	}
	for i := 1; i < len(l); i++ {
		if vector.Compare(l[i-1], l[i]) >= 0 {
			return false
		}
	}
	return true
}

// distance2 returns the squared distance of two points, which are always valid as vectors.
func distance2(a, b api.Vec) int {
	square, _ := vector.Distance2(a, b)
	return square
}

// none returns the distances of points to the nearest picked one while none is picked.
func none(many int) []int { return slices.Repeat([]int{beyond}, many) }

// approach makes the distances of the points of a set smaller where a further point is nearer.
func approach(near []int, l []api.Vec, to api.Vec) {
	for i, p := range l {
		near[i] = min(near[i], distance2(p, to))
	}
}

// picker returns a function that picks a further point of a set at each call, and returns its index. It goes on from given distances to the nearest picked point, which it leaves as they are.
func picker(l []api.Vec, before []int) func() int {
	near := make([]int, len(before))
	copy(near, before)
	return func() int {
		// A point that was picked is not found again: its distance is 0, and those of the others are greater.
		next := farthest(near)
		approach(near, l, l[next])
		return next
	}
}

// farthest returns the index of the greatest distance, the first one of several.
func farthest(near []int) int {
	at := 0
	for i, square := range near {
		if square > near[at] {
			at = i
		}
	}
	return at
}
