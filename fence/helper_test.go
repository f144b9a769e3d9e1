package fence_test

import (
	"math/big"
	"math/rand"
	"slices"
	"testing"

	"skylantern/api"
	"skylantern/fence"
	"skylantern/wide"
)

// far is the greatest coordinate.
const far = api.MaxCoord

// p returns points with the height 0, X and Y by turns.
func p(n ...int) []api.Vec {
	var out []api.Vec
	for i := 0; i < len(n); i += 2 {
		out = append(out, v(n[i], n[i+1], 0))
	}
	return out
}

// v returns a vector, and ratio a ratio that need not be in lowest terms.
func v(x, y, z int) api.Vec       { return api.Vec{X: x, Y: y, Z: z} }
func ratio(n, d int) api.Ratio    { return api.Ratio{Num: wide.Of(n), Den: wide.Of(d)} }
func flat(a api.Vec) api.Vec      { return v(a.X, a.Y, 0) }
func cross(a, b api.Vec) int      { return a.X*b.Y - a.Y*b.X }
func less(a, b api.Vec) api.Vec   { return v(a.X-b.X, a.Y-b.Y, 0) }
func turn(a, b, c api.Vec) int    { return cross(less(b, a), less(c, a)) }
func dot(a, b api.Vec) int        { return a.X*b.X + a.Y*b.Y }
func next(l []api.Vec, i int) int { return (i + 1) % len(l) }

// yard returns the fence of the chapter's examples.
func yard() api.Fence {
	return api.Fence{Outer: p(0, 0, 10, 0, 10, 10, 0, 10), Holes: [][]api.Vec{p(4, 4, 4, 6, 6, 6, 6, 4)}, Low: 1, High: 5}
}

// hooks returns a fence whose polygons are not convex, with heights, straight corners, and holes that a line may touch.
func hooks() api.Fence {
	return api.Fence{
		Outer: []api.Vec{v(0, 0, 7), v(6, 0, -9), v(12, 0, 0), v(12, 12, 0), v(8, 12, 1), v(8, 10, 0), v(6, 8, 0), v(4, 10, 0), v(4, 12, 3), v(0, 12, 0)},
		Holes: [][]api.Vec{p(2, 2, 5, 2, 5, 3, 3, 3, 3, 5, 2, 5), p(7, 7, 8, 7, 8, 8, 9, 9, 9, 6), {v(6, 4, far), v(7, 4, -far), v(6, 5, 0)}},
		Low:   -3, High: -3,
	}
}

// greatest returns the greatest fence, with a hole that leaves only a border of one centimetre.
func greatest() api.Fence {
	return api.Fence{Outer: p(-far, far, far, far, far, -far, -far, -far), Holes: [][]api.Vec{p(1-far, 1-far, far-1, 1-far, far-1, far-1, 1-far, far-1)}, Low: -far, High: far}
}

// comb returns a polygon with MaxCorners corners, whose teeth point up to the height y + 3 by.
func comb(x, y, by int) []api.Vec {
	var out []api.Vec
	for i := range fence.MaxCorners - 2 {
		out = append(out, v(x+by*i, y+by*(1+i%2*2), 0))
	}
	return append(out, v(x+by*(fence.MaxCorners-3), y, 0), v(x, y, 0))
}

// combs returns a fence with as many corners and holes as possible; the teeth of all holes end at the height 23.
func combs() api.Fence {
	f := api.Fence{Outer: comb(0, 0, 100), Low: -1, High: 1}
	for i := range fence.MaxHoles {
		f.Holes = append(f.Holes, comb(50+70*i, 20, 1))
	}
	return f
}

// fences returns fences of each kind.
func fences() []api.Fence {
	return []api.Fence{
		yard(), hooks(), greatest(), combs(),
		{Outer: p(0, 0, 0, 4, 4, 0)},
		{Outer: p(0, 0, 0, 4, 2, 4, 2, 2, 4, 2, 4, 0), High: 9},
		{Outer: p(-5, 0, 3, 1, 0, 9), Holes: [][]api.Vec{p(-1, 2, -1, 3, 0, 3), p(0, 2, 1, 2, 1, 3)}, Low: -2, High: 2},
		{Outer: p(0, 0, 9, 0, 9, 9, 8, 9, 8, 1, 7, 1, 7, 9, 6, 9, 6, 1, 1, 1, 1, 8, 5, 8, 5, 9, 0, 9), High: 1},
	}
}

// source returns numbers that look random and are the same in every run.
func source() *rand.Rand { return rand.New(rand.NewSource(1)) }

// common returns how many points two edges have in common: none, one, or (2) many.
func common(a, b, c, d api.Vec) int {
	along, other, to := less(b, a), less(d, c), less(c, a)
	if den := cross(along, other); den != 0 {
		// a + along t = c + other u has one solution.
		t, u := cross(to, other), cross(to, along)
		if den < 0 {
			den, t, u = -den, -t, -u
		}
		if t >= 0 && t <= den && u >= 0 && u <= den {
			return 1
		}
		return 0
	}
	if cross(along, to) != 0 {
		return 0
	}
	low, high := max(0, min(dot(along, to), dot(along, less(d, a)))), min(dot(along, along), max(dot(along, to), dot(along, less(d, a))))
	if low > high {
		return 0
	}
	if low == high {
		return 1
	}
	return 2
}

// simple reports whether a list of points is a simple polygon, by the chapter's words.
func simple(l []api.Vec) bool {
	if len(l) < 3 || len(l) > 64 || slices.ContainsFunc(l, notPoint) {
		return false
	}
	for i, a := range l {
		b := l[next(l, i)]
		if flat(a) == flat(b) {
			return false
		}
		for j, c := range l {
			d, allowed := l[next(l, j)], 0
			if next(l, i) == j || next(l, j) == i {
				allowed = 1
			}
			if i != j && common(a, b, c, d) != allowed {
				return false
			}
		}
	}
	return true
}

// notPoint reports whether a vector is not a point.
func notPoint(a api.Vec) bool { return max(a.X, a.Y, a.Z) > far || min(a.X, a.Y, a.Z) < -far }

// spot is a point of the plane with rational coordinates.
type spot struct{ x, y *big.Rat }

// spotOf returns a point as a spot.
func spotOf(a api.Vec) spot { return spot{big.NewRat(int64(a.X), 1), big.NewRat(int64(a.Y), 1)} }

// between returns the spot that divides the way from a to b at t.
func between(a, b spot, t *big.Rat) spot {
	part := func(from, to *big.Rat) *big.Rat {
		out := new(big.Rat).Sub(to, from)
		return out.Add(out.Mul(out, t), from)
	}
	return spot{part(a.x, b.x), part(a.y, b.y)}
}

// product returns twice the area of the triangle of a, b and c, which is positive if it turns left.
func product(a, b, c spot) *big.Rat {
	of := func(p, q, r, s *big.Rat) *big.Rat {
		return new(big.Rat).Mul(new(big.Rat).Sub(q, p), new(big.Rat).Sub(s, r))
	}
	return new(big.Rat).Sub(of(a.x, b.x, a.y, c.y), of(a.y, b.y, a.x, c.x))
}

// side returns 0 if a spot is on an edge of a polygon, 1 if it is inside, -1 if it is outside: a line to the south from there meets an odd number of edges (each with its west end, but not its east end) if it is inside.
func side(l []api.Vec, at spot) int {
	out := -1
	for i := range l {
		a, b := spotOf(l[i]), spotOf(l[next(l, i)])
		if a.x.Cmp(b.x) > 0 {
			a, b = b, a
		}
		sign := product(a, b, at).Sign()
		if sign == 0 && a.x.Cmp(at.x) <= 0 && at.x.Cmp(b.x) <= 0 && (at.y.Cmp(a.y)*at.y.Cmp(b.y) <= 0) {
			return 0
		}
		if a.x.Cmp(at.x) <= 0 && at.x.Cmp(b.x) < 0 && sign > 0 {
			out = -out
		}
	}
	return out
}

// covered reports whether a spot is in a fence, seen from above.
func covered(f api.Fence, at spot) bool {
	for _, hole := range f.Holes {
		if side(hole, at) > 0 {
			return false
		}
	}
	return side(f.Outer, at) >= 0
}

// valid reports whether a fence is valid, by the chapter's words.
func valid(f api.Fence) bool {
	if f.Low < -far || f.High < f.Low || f.High > far || len(f.Holes) > 16 || !simple(f.Outer) || slices.ContainsFunc(f.Holes, func(l []api.Vec) bool { return !simple(l) }) {
		return false
	}
	all := append([][]api.Vec{f.Outer}, f.Holes...)
	for i, k := range all {
		for j, l := range all {
			if i == j {
				continue
			}
			for n, a := range k {
				for m, c := range l {
					if common(a, k[next(k, n)], c, l[next(l, m)]) > 0 {
						return false
					}
				}
				if is := side(l, spotOf(a)); i > 0 && is > 0 != (j == 0) {
					return false
				}
			}
		}
	}
	return true
}

// held reports whether all points of a line, seen from above, are in a fence: all those that it has in common with the lines of the edges, and one between each two of these.
func held(f api.Fence, a, b api.Vec) bool {
	from, to := spotOf(a), spotOf(b)
	numbers := []*big.Rat{big.NewRat(0, 1), big.NewRat(1, 1)}
	for _, l := range append([][]api.Vec{f.Outer}, f.Holes...) {
		for i, c := range l {
			d := l[next(l, i)]
			if den := cross(less(b, a), less(d, c)); den != 0 {
				numbers = append(numbers, big.NewRat(int64(cross(less(c, a), less(d, c))), int64(den)))
			} else if n := dot(less(b, a), less(b, a)); n > 0 {
				numbers = append(numbers, big.NewRat(int64(dot(less(b, a), less(c, a))), int64(n)))
			}
		}
	}
	numbers = slices.DeleteFunc(numbers, func(t *big.Rat) bool { return t.Sign() < 0 || t.Cmp(big.NewRat(1, 1)) > 0 })
	slices.SortFunc(numbers, (*big.Rat).Cmp)
	for i, t := range numbers {
		middle := new(big.Rat).Add(t, numbers[max(i-1, 0)])
		if !covered(f, between(from, to, t)) || !covered(f, between(from, to, middle.Quo(middle, big.NewRat(2, 1)))) {
			return false
		}
	}
	return true
}

// randomPolygon returns a simple polygon whose corners are at most so far to the east and to the north of a point.
func randomPolygon(r *rand.Rand, x, y, length int) []api.Vec {
	for {
		l := make([]api.Vec, 3+r.Intn(5))
		for i := range l {
			l[i] = v(x+r.Intn(length+1), y+r.Intn(length+1), r.Intn(5))
		}
		if simple(l) {
			return l
		}
	}
}

// randomFence returns a fence on a grid with a side of the given length; a test compares Valid with the chapter's words for such fences.
func randomFence(r *rand.Rand, length int) api.Fence {
	f := api.Fence{Outer: randomPolygon(r, 0, 0, length), Low: r.Intn(3) - 3, High: r.Intn(4)}
	for range 30 {
		hole := randomPolygon(r, r.Intn(length), r.Intn(length), 1+r.Intn(3))
		if g := (api.Fence{Outer: f.Outer, Holes: append(slices.Clone(f.Holes), hole)}); fence.Valid(g) {
			f.Holes = g.Holes
		}
	}
	return f
}

// clone returns a fence that shares no memory with another one.
func clone(f api.Fence) api.Fence {
	f.Outer, f.Holes = slices.Clone(f.Outer), slices.Clone(f.Holes)
	for i, hole := range f.Holes {
		f.Holes[i] = slices.Clone(hole)
	}
	return f
}

// edgesOf returns the ends of all edges of a fence, one after the other.
func edgesOf(f api.Fence) []api.Vec {
	var out []api.Vec
	for a, b := range fence.Edges(f) {
		out = append(out, a, b)
	}
	return out
}

// invalid returns fences that are not valid, with a word why.
func invalid() map[string]api.Fence {
	out := map[string]api.Fence{}
	for name, change := range map[string]func(f *api.Fence){
		"nothing":           func(f *api.Fence) { *f = api.Fence{} },
		"low":               func(f *api.Fence) { f.Low = -far - 1 },
		"high":              func(f *api.Fence) { f.High = far + 1 },
		"upside down":       func(f *api.Fence) { f.Low, f.High = 3, 2 },
		"no outer":          func(f *api.Fence) { f.Outer = nil },
		"two corners":       func(f *api.Fence) { f.Outer = f.Outer[:2] },
		"outer far away":    func(f *api.Fence) { f.Outer[1].X = far + 1 },
		"outer too high":    func(f *api.Fence) { f.Outer[1].Z = far + 1 },
		"outer crosses":     func(f *api.Fence) { f.Outer[2], f.Outer[3] = f.Outer[3], f.Outer[2] },
		"empty hole":        func(f *api.Fence) { f.Holes = append(f.Holes, nil) },
		"hole too low":      func(f *api.Fence) { f.Holes[0][3].Z = -far - 1 },
		"hole crosses":      func(f *api.Fence) { f.Holes[0][2], f.Holes[0][3] = f.Holes[0][3], f.Holes[0][2] },
		"hole is flat":      func(f *api.Fence) { f.Holes[0] = p(4, 4, 5, 4, 6, 4) },
		"hole twice":        func(f *api.Fence) { f.Holes = append(f.Holes, f.Holes[0]) },
		"hole on the edge":  func(f *api.Fence) { f.Holes[0] = p(4, 4, 4, 6, 10, 6) },
		"hole at a corner":  func(f *api.Fence) { f.Holes[0] = p(0, 0, 4, 6, 6, 4) },
		"hole has a corner": func(f *api.Fence) { f.Outer[0], f.Holes[0] = v(5, 4, 0), p(3, 4, 8, 4, 8, 8) },
		"hole outside":      func(f *api.Fence) { f.Holes[0] = p(20, 20, 20, 30, 30, 20) },
		"hole around":       func(f *api.Fence) { f.Holes[0] = p(-1, -1, 11, -1, 11, 11, -1, 11) },
		"hole half outside": func(f *api.Fence) { f.Holes[0] = p(4, 4, 4, 6, 14, 5) },
		"hole in a hole":    func(f *api.Fence) { f.Holes = append(f.Holes, p(1, 1, 9, 1, 9, 9, 1, 9)) },
		"hole around one":   func(f *api.Fence) { f.Holes = append([][]api.Vec{p(1, 1, 9, 1, 9, 9, 1, 9)}, f.Holes...) },
		"holes touch":       func(f *api.Fence) { f.Holes = append(f.Holes, p(5, 6, 4, 7, 6, 7)) },
		"holes cross":       func(f *api.Fence) { f.Holes = append(f.Holes, p(3, 5, 8, 5, 8, 8)) },
		"holes have a side": func(f *api.Fence) { f.Holes = append(f.Holes, p(6, 5, 6, 8, 8, 8)) },
	} {
		f := clone(yard())
		change(&f)
		out[name] = f
	}
	return out
}

// isRatio fails the test if a call did not return the expected ratio.
func isRatio(t *testing.T, name any, got api.Ratio, e api.Errno, want api.Ratio) {
	t.Helper()
	if got != want || e != api.OK {
		t.Error(name, got, e, "expected:", want)
	}
}
