package fence

import (
	"cmp"
	"iter"

	"skylantern/api"
	"skylantern/wide"
)

// place stands for a point of the plane with the coordinates x and y: it gives the sign of a x + b y + c.
type place func(a, b, c int) int

// atHalf returns the place of a point whose doubled coordinates are those of p.
func atHalf(p api.Vec) place {
	return func(a, b, c int) int { return cmp.Compare(a*p.X+b*p.Y+2*c, 0) }
}

// atRatios returns the place of a point with rational coordinates, which are not too long.
func atRatios(x, y api.Ratio) place {
	// A common denominator leaves only products with ints for each sign.
	common := product(x.Den, y.Den)
	east, north := product(x.Num, y.Den), product(y.Num, x.Den)
	return func(a, b, c int) int {
		return wide.Sign(plus(product(east, wide.Of(a)), product(north, wide.Of(b)), product(common, wide.Of(c))))
	}
}

// east returns 1, 0 or -1 if a corner is to the east of a place, as far, or to the west.
func (at place) east(v api.Vec) int { return at(-1, 0, v.X) }

// north returns 1, 0 or -1 if a corner is to the north of a place, as far, or to the south.
func (at place) north(v api.Vec) int { return at(0, -1, v.Y) }

// left returns 1, 0 or -1 if a place is on the left of the edge from a to b, on its line, or on the right.
func (at place) left(a, b api.Vec) int { return at(a.Y-b.Y, b.X-a.X, area2(a, b)) }

// covers reports whether a place is on one of some edges, or they go round it.
func covers(border iter.Seq2[api.Vec, api.Vec], at place) bool {
	number, on := winding(border, at)
	return on || number != 0
}

// winding returns how often some edges go round a place, to the left, and whether it is on one of them. Each edge counts that goes past the place on its east side.
func winding(border iter.Seq2[api.Vec, api.Vec], at place) (number int, on bool) {
	for a, b := range border {
		from, to := at.north(a), at.north(b)
		if from*to > 0 {
			continue
		}
		side := at.left(a, b)
		if side == 0 && at.east(a)*at.east(b) <= 0 {
			return 0, true
		}
		// An end that is as far to the north counts as one to the south, so that two edges do not count there for one.
		if from <= 0 && to > 0 && side > 0 {
			number++
		}
		if from > 0 && to <= 0 && side < 0 {
			number--
		}
	}
	return number, false
}
