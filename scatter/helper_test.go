package scatter_test

import (
	"math"
	"math/rand"
	"slices"
	"testing"

	"skylantern/api"
	"skylantern/scatter"
	"skylantern/vector"
)

// far is the greatest coordinate.
const far = api.MaxCoord

// v returns a vector.
func v(x, y, z int) api.Vec { return api.Vec{X: x, Y: y, Z: z} }

// p returns points, from X, Y and Z by turns.
func p(n ...int) []api.Vec {
	var out []api.Vec
	for i := 0; i < len(n); i += 3 {
		out = append(out, v(n[i], n[i+1], n[i+2]))
	}
	return out
}

// row returns points on a line along X.
func row(n ...int) []api.Vec {
	var out []api.Vec
	for _, x := range n {
		out = append(out, v(x, 0, 0))
	}
	return out
}

// source returns numbers that look random and are the same in every run.
func source() *rand.Rand { return rand.New(rand.NewSource(1)) }

// square returns the squared distance of two points.
func square(a, b api.Vec) int {
	x, y, z := a.X-b.X, a.Y-b.Y, a.Z-b.Z
	return x*x + y*y + z*z
}

// set returns points in increasing order, each one once.
func set(l []api.Vec) []api.Vec {
	l = slices.SortedFunc(slices.Values(l), vector.Compare)
	return slices.Compact(l)
}

// randomPoints returns points of a cube, which may be small, so that many distances are equal.
func randomPoints(r *rand.Rand, many int) []api.Vec {
	var out []api.Vec
	limit := []int{1, 2, 5, 50, 1000, far}[r.Intn(6)]
	part := func() int { return r.Intn(2*limit+1) - limit }
	for range many {
		out = append(out, v(part(), part(), part()))
	}
	return out
}

// randomSet returns a set of at most some points.
func randomSet(r *rand.Rand, most int) []api.Vec { return set(randomPoints(r, r.Intn(most+1))) }

// samples returns sets: those of the chapter, corner cases, and random ones.
func samples() [][]api.Vec {
	r := source()
	out := [][]api.Vec{
		nil, {}, row(0), row(-far, far), p(-far, -far, -far, far, far, far), row(0, 1, 4, 10), p(-1, 0, 0, 0, 0, 0, 1, 0, 0, 1, 1, 0),
		row(-2, -1, 0, 1, 2), p(0, 0, 0, 0, 0, 1, 0, 1, 0, 0, 1, 1, 1, 0, 0, 1, 0, 1, 1, 1, 0, 1, 1, 1), p(0, 0, -far, 0, 0, far), p(0, -far, 0, 0, far, 0),
	}
	for range 300 {
		out = append(out, randomSet(r, 12), randomSet(r, 60))
	}
	return out
}

// plate returns a set of many points, at most 100 of them in a row.
func plate(many int) []api.Vec {
	var out []api.Vec
	for i := range many {
		out = append(out, v(i/100*7, i%100*11, 0))
	}
	return out
}

// notPoints returns vectors that are not points.
func notPoints() []api.Vec {
	var out []api.Vec
	for _, n := range []int{far + 1, -far - 1, vector.MaxPart, vector.MaxPart + 1, math.MaxInt, math.MinInt, 1 << 32, -1 << 62} {
		out = append(out, v(n, 0, 0), v(0, n, 0), v(0, 0, n), v(1, far, n))
	}
	return out
}

// notLists returns lists that are too long or have a vector that is not a point, but would be in increasing order.
func notLists() [][]api.Vec {
	out := [][]api.Vec{plate(scatter.MaxPoints + 1), plate(100000), append(plate(scatter.MaxPoints), v(far, far, far+1))}
	for _, bad := range notPoints() {
		out = append(out, []api.Vec{bad}, set([]api.Vec{bad, v(-1, 0, 0), v(0, 0, 0), v(1, 0, 0)}), set(append(plate(5), bad)))
	}
	return out
}

// notSets returns lists that are not sets of points.
func notSets() [][]api.Vec {
	out := append(notLists(),
		row(0, 0), row(1, 0), row(0, 1, 1), row(0, 0, 1), row(0, 2, 1), row(1, 0, 2), row(far, -far),
		p(0, 1, 0, 0, 0, 0), p(0, 0, 1, 0, 0, 0), p(0, 0, 1, 0, 0, 1), p(0, 1, 0, 0, 0, 1), p(1, 0, 0, 0, 9, 9), p(0, 0, 0, 0, 0, 1, 0, 0, 0),
	)
	l := plate(scatter.MaxPoints)
	for _, at := range []int{1, 100, scatter.MaxPoints - 1} {
		twice, swapped := slices.Clone(l), slices.Clone(l)
		twice[at] = l[at-1]
		swapped[at], swapped[at-1] = l[at-1], l[at]
		out = append(out, twice, swapped)
	}
	return out
}

// isList fails unless points and an error are those that are wanted.
func isList(t *testing.T, what any, got []api.Vec, e api.Errno, want []api.Vec, wantErr api.Errno) {
	t.Helper()
	if !slices.Equal(got, want) || e != wantErr {
		t.Errorf("%v: %v %v, not %v %v", what, got, e, want, wantErr)
	}
}

// isNumber fails unless a number and an error are those that are wanted.
func isNumber(t *testing.T, what any, got int, e api.Errno, want int, wantErr api.Errno) {
	t.Helper()
	if got != want || e != wantErr {
		t.Errorf("%v: %v %v, not %v %v", what, got, e, want, wantErr)
	}
}

// isPicked fails unless Pick returns what is wanted.
func isPicked(t *testing.T, l []api.Vec, many int, want []api.Vec, wantErr api.Errno) {
	t.Helper()
	got, e := scatter.Pick(l, many)
	isList(t, []any{l, many}, got, e, want, wantErr)
}

// isSpread fails unless Spread returns what is wanted.
func isSpread(t *testing.T, l []api.Vec, want int, wantErr api.Errno) {
	t.Helper()
	got, e := scatter.Spread(l)
	isNumber(t, l, got, e, want, wantErr)
}

// isCover fails unless Cover returns what is wanted.
func isCover(t *testing.T, l, chosen []api.Vec, want int, wantErr api.Errno) {
	t.Helper()
	got, e := scatter.Cover(l, chosen)
	isNumber(t, [][]api.Vec{l, chosen}, got, e, want, wantErr)
}

// isFormation fails unless Formation returns what is wanted.
func isFormation(t *testing.T, f api.Figure, many int, want []api.Vec, wantErr api.Errno) {
	t.Helper()
	got, e := scatter.Formation(f, many)
	isList(t, []any{f, many}, got, e, want, wantErr)
}
