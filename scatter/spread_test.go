package scatter_test

import (
	"slices"
	"testing"

	"skylantern/api"
	"skylantern/scatter"
)

// P10.2

// spread returns the spread of a set of at least two points, by the definition.
func spread(l []api.Vec) int {
	var all []int
	for i, a := range l {
		for _, b := range l[:i] {
			all = append(all, square(a, b))
		}
	}
	return slices.Min(all)
}

// cover returns the cover of a set by at least one chosen point, by the definition.
func cover(l, chosen []api.Vec) int {
	greatest := 0
	for _, a := range l {
		greatest = max(greatest, nearest(a, chosen))
	}
	return greatest
}

func TestSpreadExamples(t *testing.T) {
	isSpread(t, row(0, 1, 4), 1, api.OK)
	isSpread(t, row(0), 0, api.ErrNone)
	isSpread(t, nil, 0, api.ErrNone)
	isSpread(t, []api.Vec{}, 0, api.ErrNone)
	isSpread(t, row(0, 9), 81, api.OK)
	isSpread(t, row(0, 5, 9, 20), 16, api.OK)
	// The nearest points need not be neighbours in the order of the set.
	isSpread(t, p(0, 0, 0, 3, 9, 0, 4, -9, 0, 5, 9, 1), 5, api.OK)
	isSpread(t, p(0, 0, 0, 0, 0, 9, 0, 9, 0, 1, 0, 0), 1, api.OK)
	isSpread(t, p(-far, -far, -far, far, far, far), 3<<42, api.OK)
	isSpread(t, p(0, -far, 0, 0, far, -1, 0, far, 0), 1, api.OK)
}

func TestSpread(t *testing.T) {
	for _, l := range samples() {
		if len(l) < 2 {
			isSpread(t, l, 0, api.ErrNone)
			continue
		}
		isSpread(t, l, spread(l), api.OK)
	}
	isSpread(t, plate(scatter.MaxPoints), 49, api.OK)
	for _, l := range notSets() {
		isSpread(t, l, 0, api.ErrArg)
	}
}

func TestCoverExamples(t *testing.T) {
	isCover(t, row(0, 1, 4), row(0, 4), 1, api.OK)
	isCover(t, row(0, 1, 4), row(4, 0), 1, api.OK)
	isCover(t, nil, row(0), 0, api.OK)
	isCover(t, []api.Vec{}, row(3, -7, 3), 0, api.OK)
	isCover(t, row(0), nil, 0, api.ErrNone)
	isCover(t, row(0), []api.Vec{}, 0, api.ErrNone)
	isCover(t, nil, nil, 0, api.ErrNone)
	isCover(t, row(0), row(0), 0, api.OK)
	isCover(t, row(0, 1, 4), row(100), 10000, api.OK)
	// Chosen points may be in any order, several times the same, and outside of the set.
	isCover(t, row(0, 3), row(3, 3, 1), 1, api.OK)
	isCover(t, row(0, 3), p(3, 0, 0, 0, 2, 2, 9, 9, 9), 8, api.OK)
	isCover(t, p(-far, -far, -far), p(far, far, far), 3<<42, api.OK)
}

func TestCover(t *testing.T) {
	r := source()
	for _, l := range samples() {
		isCover(t, l, nil, 0, api.ErrNone)
		for range 5 {
			chosen := randomPoints(r, 1+r.Intn(8))
			for _, a := range l {
				if r.Intn(4) == 0 {
					chosen = append(chosen, a)
				}
			}
			r.Shuffle(len(chosen), func(i, j int) { chosen[i], chosen[j] = chosen[j], chosen[i] })
			isCover(t, l, chosen, cover(l, chosen), api.OK)
		}
	}
}

func TestCoverByManyPoints(t *testing.T) {
	l := plate(scatter.MaxPoints)
	isCover(t, l, l, 0, api.OK)
	isCover(t, l, slices.Repeat(row(0), scatter.MaxPoints), cover(l, row(0)), api.OK)
	isCover(t, l, append(slices.Repeat(row(-far), scatter.MaxPoints-1), v(100, 500, 3)), cover(l, p(100, 500, 3)), api.OK)
}

func TestCoverErrors(t *testing.T) {
	for _, bad := range notSets() {
		isCover(t, bad, row(0), 0, api.ErrArg)
		isCover(t, bad, nil, 0, api.ErrArg)
	}
	for _, bad := range notLists() {
		isCover(t, row(0, 1), bad, 0, api.ErrArg)
		isCover(t, nil, bad, 0, api.ErrArg)
		slices.Reverse(bad)
		isCover(t, row(0, 1), bad, 0, api.ErrArg)
	}
	for _, many := range []int{scatter.MaxPoints + 1, 100000} {
		isCover(t, row(0, 1), slices.Repeat(row(0), many), 0, api.ErrArg)
	}
}
