package fence

import (
	"iter"
	"slices"

	"skylantern/api"
)

// leaves reports whether the line from a to b goes through one of some edges, or has a point between two places at which it meets them that is neither on them nor surrounded by them.
func leaves(border iter.Seq2[api.Vec, api.Vec], a, b api.Vec) bool {
	for c, d := range border {
		if cross(a, b, c, d) {
			return true
		}
	}
	numbers := meetings(border, a, b)
	for i, n := range numbers[1:] {
		// From one number to the next one the line does not go from one side of the border to the other one, so the middle tells all.
		if !covers(border, atHalf(middle(a, b, numbers[i], n))) {
			return true
		}
	}
	return false
}

// meetings returns the numbers, in order, of both ends of the line from a to b, which goes through no edge, and of the corners that it meets. The number of a point of the line is how far it is from a to the east or west and to the north or south, together: so it is an integer for each corner.
func meetings(border iter.Seq2[api.Vec, api.Vec], a, b api.Vec) []int {
	numbers := collect(nil, 0, numberOf(a, b))
	// Each corner begins one edge.
	for corner := range border {
		if isOn(a, b, corner) {
			numbers = collect(numbers, numberOf(a, corner))
		}
	}
	return numbers
}

// numberOf returns the number of a point of a line that begins at a.
func numberOf(a, p api.Vec) int { return max(p.X-a.X, a.X-p.X) + max(p.Y-a.Y, a.Y-p.Y) }

// collect returns some numbers in order, each once, together with others.
func collect(into []int, numbers ...int) []int {
	for _, n := range numbers {
		if i, found := slices.BinarySearch(into, n); !found {
			into = slices.Insert(into, i, n)
		}
	}
	return into
}

// middle returns the doubled coordinates of the middle of the points of the line from a to b that have the numbers m and n.
func middle(a, b api.Vec, m, n int) api.Vec {
	along, last := way(a, b), numberOf(a, b)
	// The divisions leave no rest, as both points have integers as coordinates.
	return api.Vec{X: 2*a.X + along.X*(m+n)/last, Y: 2*a.Y + along.Y*(m+n)/last}
}
