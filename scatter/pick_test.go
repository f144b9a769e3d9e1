package scatter_test

import (
	"math"
	"slices"
	"testing"

	"skylantern/api"
	"skylantern/scatter"
)

// P10.1

// picked returns some points of a set in the order in which they are picked, by the definition.
func picked(l []api.Vec, many int) []api.Vec {
	var out []api.Vec
	for len(out) < many {
		best, greatest := l[0], -1
		for _, a := range l {
			if slices.Contains(out, a) {
				continue
			}
			if d := nearest(a, out); d > greatest {
				best, greatest = a, d
			}
		}
		out = append(out, best)
	}
	return out
}

// nearest returns the squared distance of a point to the nearest one of others, which is 0 if there are none.
func nearest(a api.Vec, others []api.Vec) int {
	var all []int
	for _, b := range others {
		all = append(all, square(a, b))
	}
	slices.Sort(all)
	return append(all, 0)[0]
}

func TestPickExamples(t *testing.T) {
	l := row(0, 1, 4, 10)
	isPicked(t, l, 4, row(0, 10, 4, 1), api.OK)
	isPicked(t, l, 3, row(0, 10, 4), api.OK)
	isPicked(t, l, 2, row(0, 10), api.OK)
	isPicked(t, l, 1, row(0), api.OK)
	isPicked(t, l, 0, nil, api.OK)
	isPicked(t, l, 5, nil, api.ErrRange)
	isPicked(t, p(-1, 0, 0, 0, 0, 0, 1, 0, 0, 1, 1, 0), 3, p(-1, 0, 0, 1, 1, 0, 0, 0, 0), api.OK)
	isPicked(t, nil, 0, nil, api.OK)
	isPicked(t, []api.Vec{}, 0, nil, api.OK)
	isPicked(t, nil, 1, nil, api.ErrRange)
	isPicked(t, row(7), 1, row(7), api.OK)
	isPicked(t, row(7), 2, nil, api.ErrRange)
}

func TestPickTakesTheFirstOfSeveral(t *testing.T) {
	isPicked(t, row(0, 1, 2, 3), 4, row(0, 3, 1, 2), api.OK)
	isPicked(t, p(-1, 0, 0, 0, -3, 0, 0, 0, -3, 0, 0, 3, 0, 3, 0), 5, p(-1, 0, 0, 0, -3, 0, 0, 0, -3, 0, 0, 3, 0, 3, 0), api.OK)
	// All corners of a cube: the opposite one is the farthest, and then all others are at the same distance.
	cube := p(0, 0, 0, 0, 0, 1, 0, 1, 0, 0, 1, 1, 1, 0, 0, 1, 0, 1, 1, 1, 0, 1, 1, 1)
	isPicked(t, cube, 8, p(0, 0, 0, 1, 1, 1, 0, 0, 1, 0, 1, 0, 0, 1, 1, 1, 0, 0, 1, 0, 1, 1, 1, 0), api.OK)
}

func TestPickLooksAtAllCoordinates(t *testing.T) {
	isPicked(t, p(0, 0, 0, 1, 0, 9, 2, 8, 0, 7, 0, 0), 4, p(0, 0, 0, 1, 0, 9, 2, 8, 0, 7, 0, 0), api.OK)
	isPicked(t, p(0, 0, 0, 1, 0, 7, 2, 8, 0, 9, 0, 0), 4, p(0, 0, 0, 9, 0, 0, 2, 8, 0, 1, 0, 7), api.OK)
	isPicked(t, p(-far, -far, -far, 0, 0, 0, far, far, far-1, far, far, far), 3, p(-far, -far, -far, far, far, far, 0, 0, 0), api.OK)
}

func TestPick(t *testing.T) {
	for _, l := range samples() {
		for many := range len(l) + 1 {
			isPicked(t, l, many, picked(l, many), api.OK)
		}
		for _, many := range []int{len(l) + 1, len(l) + 2, scatter.MaxPoints, scatter.MaxPoints + 1, math.MaxInt} {
			isPicked(t, l, many, nil, api.ErrRange)
		}
		for _, many := range []int{-1, -2, math.MinInt} {
			isPicked(t, l, many, nil, api.ErrArg)
		}
	}
}

func TestPickOfManyPoints(t *testing.T) {
	l := plate(scatter.MaxPoints)
	isPicked(t, l, 20, picked(l, 20), api.OK)
	isPicked(t, l, scatter.MaxPoints+1, nil, api.ErrRange)
	all, e := scatter.Pick(l, scatter.MaxPoints)
	isList(t, "sorted", set(all), e, l, api.OK)
}

func TestPickOfNoSet(t *testing.T) {
	for _, l := range notSets() {
		for _, many := range []int{0, 1, len(l), len(l) + 1, -1} {
			isPicked(t, l, many, nil, api.ErrArg)
		}
	}
}
