package hull

import (
	"iter"
	"slices"

	"skylantern/api"
	"skylantern/vector"
)

// allPoints reports whether all of some vectors are points, and not too many.
func allPoints(l []api.Vec) bool {
	if len(l) > MaxPoints {
		return false
	}
	for _, p := range l {
		if !vector.Point(p) {
			return false
		}
	}
	return true
}

// allFlat reports whether all of some points have the height 0.
func allFlat(l []api.Vec) bool {
	for _, p := range l {
		if p.Z != 0 {
			return false
		}
	}
	return true
}

// firstIsLeast reports whether the first one of some points is before all others.
func firstIsLeast(l []api.Vec) bool {
	for _, p := range l[1:] {
		if vector.Compare(l[0], p) >= 0 {
			return false
		}
	}
	return true
}

// goesRoundOnce reports whether the way along some points, the first of which is before all others, turns left at each of them and comes back after one turn.
func goesRoundOnce(l []api.Vec) bool {
	for i, p := range l {
		next := after(l, i)
		if turn(p, next, after(l, i+1)) != 1 {
			return false
		}
		// A star turns left at each of its corners, too, but not about the first one.
		if i > 0 && i+1 < len(l) && turn(l[0], p, next) != 1 {
			return false
		}
	}
	return true
}

// corners returns the hull of some points, one at least.
func corners(l []api.Vec) []api.Vec {
	sorted := make([]api.Vec, len(l))
	for i, p := range l {
		sorted[i] = flat(p)
	}
	slices.SortFunc(sorted, vector.Compare)
	sorted = slices.Compact(sorted)
	if len(sorted) == 1 {
		return sorted
	}
	below := leftTurns(sorted)
	slices.Reverse(sorted)
	above := leftTurns(sorted)
	// Each of both ways ends where the other one begins.
	return append(below[:len(below)-1], above[:len(above)-1]...)
}

// leftTurns returns those of some sorted points that leave all others on their left, from the first one to the last one.
func leftTurns(sorted []api.Vec) []api.Vec {
	var out []api.Vec
	for _, p := range sorted {
		for len(out) >= 2 && turn(out[len(out)-2], out[len(out)-1], p) != 1 {
			out = out[:len(out)-1]
		}
		out = append(out, p)
	}
	return out
}

// after returns the corner that follows the one with an index; the first one follows the last one.
func after(h []api.Vec, i int) api.Vec { return h[(i+1)%len(h)] }

// edges goes over both ends of the edges of a hull.
func edges(h []api.Vec) iter.Seq2[api.Vec, api.Vec] {
	return func(yield func(a, b api.Vec) bool) {
		for i, a := range h {
			if !yield(a, after(h, i)) {
				return
			}
		}
	}
}

// opposites goes over the indexes of pairs of corners, in order, among them all that may be farthest apart: those that two parallel lines hold between them. There are few, because one half turn of the lines meets all pairs.
func opposites(h []api.Vec) iter.Seq2[int, int] {
	return func(yield func(i, j int) bool) {
		for i, j := 0, 1; i < j && j < len(h); {
			if !yield(i, j) {
				return
			}
			// The lines turn left until one of them lies on an edge: it goes on from the end of that edge.
			if turn(api.Vec{}, way(h, i), way(h, j)) == 1 {
				j++
			} else {
				i++
			}
		}
	}
}
