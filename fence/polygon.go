package fence

import (
	"iter"

	"skylantern/api"
	"skylantern/vector"
)

// allPoints reports whether all of some vectors are points.
func allPoints(l []api.Vec) bool {
	for _, p := range l {
		if !vector.Point(p) {
			return false
		}
	}
	return true
}

// after returns the corner that follows the one with an index; the first one follows the last one.
func after(l []api.Vec, i int) api.Vec { return l[(i+1)%len(l)] }

// neighbours reports whether two edges of a list have a corner in common by their indexes, of which the first one is less.
func neighbours(l []api.Vec, i, j int) bool { return j-i == 1 || j-i == len(l)-1 }

// goesOn reports whether the edge from the corner with an index and the next one have a length and only their corner in common.
func goesOn(l []api.Vec, i int) bool {
	a, b, c := l[i], after(l, i), after(l, i+1)
	// An edge without a length has no turn, and the scalar product 0.
	return turn(a, b, c) != 0 || dot(way(a, b), way(b, c)) > 0
}

// edges goes over both ends of the edges of some polygons.
func edges(polygons ...[]api.Vec) iter.Seq2[api.Vec, api.Vec] {
	return func(yield func(a, b api.Vec) bool) {
		for _, l := range polygons {
			for i, a := range l {
				if !yield(a, after(l, i)) {
					return
				}
			}
		}
	}
}

// touch reports whether an edge of one polygon has a common point with one of another.
func touch(k, l []api.Vec) bool {
	low, high := box(l)
	for a, b := range edges(k) {
		// Most edges are far from all of the other polygon.
		if !overlap(a, b, low, high) {
			continue
		}
		for c, d := range edges(l) {
			if meet(a, b, c, d) {
				return true
			}
		}
	}
	return false
}

// surrounds reports whether a polygon has all of another one inside of it.
func surrounds(outer, l []api.Vec) bool {
	// If no edges meet, one corner is on the same side as all others.
	return !touch(outer, l) && covers(edges(outer), atHalf(twice(l[0])))
}

// separate reports whether two polygons have nothing in common.
func separate(k, l []api.Vec) bool {
	return !touch(k, l) && !covers(edges(k), atHalf(twice(l[0]))) && !covers(edges(l), atHalf(twice(k[0])))
}

// borders returns the polygons of a fence that is valid, flat, with the fence on the left of their edges.
func borders(f api.Fence) [][]api.Vec {
	out := [][]api.Vec{turning(f.Outer, 1)}
	for _, hole := range f.Holes {
		out = append(out, turning(hole, -1))
	}
	return out
}

// turning returns a flat copy of a polygon that turns left as a whole for the sign 1, and right for -1; it begins at the same corner.
func turning(l []api.Vec, sign int) []api.Vec {
	sum := 0
	for a, b := range edges(l) {
		sum += area2(a, b)
	}
	out := make([]api.Vec, len(l))
	for i, p := range l {
		if sum*sign < 0 {
			i = (len(l) - i) % len(l)
		}
		out[i] = flat(p)
	}
	return out
}
