package hull_test

import (
	"math"
	"math/rand"
	"slices"
	"testing"

	"skylantern/api"
	"skylantern/hull"
	"skylantern/vector"
)

// far is the greatest coordinate.
const far = api.MaxCoord

// p returns points with the height 0, X and Y by turns.
func p(n ...int) []api.Vec {
	var out []api.Vec
	for i := 0; i < len(n); i += 2 {
		out = append(out, api.Vec{X: n[i], Y: n[i+1]})
	}
	return out
}

// The hulls of the chapter, and others of each kind.
var (
	square   = p(0, 0, 2, 0, 2, 2, 0, 2)
	line     = p(1, 1, 3, 3)
	dot      = p(5, 5)
	triangle = p(0, 0, 4, 0, 1, 3)
	greatest = p(-far, -far, far, -far, far, far, -far, far)
)

// source returns numbers that look random and are the same in every run.
func source() *rand.Rand { return rand.New(rand.NewSource(1)) }

// randomPoints returns points whose X and Y are from -limit to limit, with any heights.
func randomPoints(r *rand.Rand, many, limit int) []api.Vec {
	out := make([]api.Vec, many)
	for i := range out {
		out[i] = api.Vec{X: r.Intn(2*limit+1) - limit, Y: r.Intn(2*limit+1) - limit, Z: r.Intn(2*far+1) - far}
	}
	return out
}

// samples returns lists of a few points; many have points in common, or more than two on a line.
func samples() [][]api.Vec {
	r := source()
	var out [][]api.Vec
	for _, h := range [][]api.Vec{square, line, dot, triangle, greatest} {
		out = append(out, slices.Clone(h))
	}
	for i := range 1500 {
		limit := []int{1, 2, 3, 5, 9, far}[i%6]
		out = append(out, randomPoints(r, 1+r.Intn(8), limit))
	}
	return out
}

// hulls returns the hulls of the samples.
func hulls() [][]api.Vec {
	var out [][]api.Vec
	for _, l := range samples() {
		out = append(out, cornersOf(l))
	}
	return out
}

// turn returns twice the area of a triangle, which is negative if it turns right.
func turn(a, b, c api.Vec) int { return (b.X-a.X)*(c.Y-a.Y) - (b.Y-a.Y)*(c.X-a.X) }

// inTriangle reports whether a point is in a triangle, its border included; the triangle may be a line or a point.
func inTriangle(p, a, b, c api.Vec) bool {
	low, high := min(turn(a, b, p), turn(b, c, p), turn(c, a, p)), max(turn(a, b, p), turn(b, c, p), turn(c, a, p))
	inBox := p.X >= min(a.X, b.X, c.X) && p.X <= max(a.X, b.X, c.X) && p.Y >= min(a.Y, b.Y, c.Y) && p.Y <= max(a.Y, b.Y, c.Y)
	return inBox && (low >= 0 || high <= 0)
}

// inHull reports whether a point is in the convex hull of some points: then it is in a triangle of three of them.
func inHull(p api.Vec, l []api.Vec) bool {
	for i, a := range l {
		for j, b := range l[i:] {
			for _, c := range l[i+j:] {
				if inTriangle(p, a, b, c) {
					return true
				}
			}
		}
	}
	return false
}

// cornersOf returns the hull of some points by its definition: those that are not in the hull of the others, in the order in which they are seen from the first one.
func cornersOf(l []api.Vec) []api.Vec {
	distinct := map[api.Vec]bool{}
	for _, q := range l {
		distinct[api.Vec{X: q.X, Y: q.Y}] = true
	}
	var out []api.Vec
	for q := range distinct {
		var others []api.Vec
		for o := range distinct {
			if o != q {
				others = append(others, o)
			}
		}
		if !inHull(q, others) {
			out = append(out, q)
		}
	}
	slices.SortFunc(out, vector.Compare)
	slices.SortFunc(out[1:], func(a, b api.Vec) int { return turn(out[0], b, a) })
	return out
}

// sideOf returns the side of a point whose coordinates, like those of the hull, are at most 16, by the definition: a point is inside if the hull includes points in all directions, nearer than a line through points that misses it can be.
func sideOf(h []api.Vec, q api.Vec) int {
	const by = 64
	fine := func(v api.Vec) api.Vec { return api.Vec{X: by * v.X, Y: by * v.Y} }
	large := make([]api.Vec, len(h))
	for i, c := range h {
		large[i] = fine(c)
	}
	if !inHull(fine(q), large) {
		return -1
	}
	for _, d := range p(1, 0, 0, 1, -1, 0, 0, -1) {
		if !inHull(api.Vec{X: by*q.X + d.X, Y: by*q.Y + d.Y}, large) {
			return 0
		}
	}
	return 1
}

// roundHull returns a hull with many corners, an even number: its edges are the shortest ways in as many directions.
func roundHull(many int) []api.Vec {
	var ways []api.Vec
	for reach := 1; len(ways) < many/2; reach++ {
		ways = ways[:0]
		for x := 0; x <= reach; x++ {
			for y := -reach; y <= reach; y++ {
				if gcd(x, max(y, -y)) == 1 && (x > 0 || y > 0) {
					ways = append(ways, api.Vec{X: x, Y: y})
				}
			}
		}
	}
	ways = ways[:many/2]
	slices.SortFunc(ways, func(a, b api.Vec) int { return turn(api.Vec{}, b, a) })
	for _, w := range ways[:many/2] {
		ways = append(ways, api.Vec{X: -w.X, Y: -w.Y})
	}
	at, out := api.Vec{X: -far / 2}, []api.Vec(nil)
	for _, w := range ways {
		out = append(out, at)
		at.X, at.Y = at.X+w.X, at.Y+w.Y
	}
	return fromLeast(out)
}

// gcd returns the greatest common divisor of two numbers that are not negative.
func gcd(a, b int) int {
	for b > 0 {
		a, b = b, a%b
	}
	return a
}

// fromLeast returns a list that goes round, beginning with its first point.
func fromLeast(l []api.Vec) []api.Vec {
	i := slices.Index(l, slices.MinFunc(l, vector.Compare))
	return slices.Concat(l[i:], l[:i])
}

// notPoints returns vectors that are not points.
func notPoints() []api.Vec {
	var out []api.Vec
	for _, n := range []int{far + 1, -far - 1, vector.MaxPart, math.MaxInt, math.MinInt, 1 << 32, -1 << 62} {
		out = append(out, api.Vec{X: n}, api.Vec{Y: n}, api.Vec{Z: n}, api.Vec{X: n, Y: 1, Z: 2}, api.Vec{X: 1, Y: far, Z: n})
	}
	return out
}

// notHulls returns lists that are not hulls.
func notHulls() [][]api.Vec {
	out := [][]api.Vec{
		nil, {},
		p(1, 1, 1, 1), p(3, 3, 1, 1), p(0, 1, 0, 0), // points in common, or in the wrong order
		p(0, 0, 0, 2, 2, 2), p(0, 0, 0, 2, 2, 2, 2, 0), // turning right
		p(2, 0, 2, 2, 0, 0), p(2, 0, 2, 2, 0, 2, 0, 0), p(0, 2, 0, 0, 2, 0, 2, 2), // another first corner
		p(0, 0, 1, 0, 2, 0), p(0, 0, 2, 0, 1, 0), p(0, 0, 0, 1, 0, 2), p(0, 0, 1, 1, 2, 2), // all on a line
		p(0, 0, 1, 0, 2, 0, 2, 2), p(0, 0, 2, 0, 2, 1, 2, 2), p(0, 0, 2, 0, 2, 2, 1, 1), p(0, 0, 2, 0, 1, 1, 0, 2), p(0, 0, 2, 0, 0, 2, 0, 1), // straight on at a corner
		p(0, 0, 2, 0, 2, 0, 2, 2), p(0, 0, 0, 0, 2, 0, 2, 2), p(0, 0, 2, 0, 2, 2, 0, 0), // points in common
		p(0, 0, 4, 0, 1, 1, 0, 4), p(0, 0, 4, 0, 4, 4, 3, 1), p(0, 0, 1, 1, 4, 0, 4, 4), // a corner to the inside
		p(0, 0, 2, 2, 2, 0, 0, 2), p(0, 0, 2, 0, 0, 2, 2, 2), // edges that cross
		p(0, 0, 10, 3, 1, 6, 6, -2, 6, 8), p(0, 3, 9, 6, 2, 0, 6, 9, 7, -1), // a star
		p(0, 0, 2, 0, 2, 2, 0, 0, 2, 0, 2, 2), // twice round
		{{Z: 1}}, {{Z: -1}}, {{}, {X: 1, Z: 1}}, {{}, {X: 2}, {X: 2, Y: 2, Z: far}},
	}
	for _, bad := range notPoints() {
		out = append(out, []api.Vec{bad}, []api.Vec{{X: -far, Y: -far}, bad}, []api.Vec{{X: -far, Y: -far}, {X: far, Y: -far}, bad})
	}
	return append(out, roundHull(hull.MaxPoints+2), roundHull(hull.MaxPoints + 2)[:hull.MaxPoints+1])
}

// same fails unless points and an error are those that are wanted.
func same(t *testing.T, what any, got []api.Vec, e api.Errno, want []api.Vec, wantErr api.Errno) {
	t.Helper()
	if !slices.Equal(got, want) || e != wantErr {
		t.Errorf("%v: %v %v, not %v %v", what, got, e, want, wantErr)
	}
}
