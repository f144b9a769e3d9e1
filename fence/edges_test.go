package fence_test

import (
	"math/big"
	"slices"
	"testing"

	"skylantern/api"
	"skylantern/fence"
	"skylantern/wide"
)

// P8.2

// shoelace returns twice the area of a polygon that turns left, and the negative of it for one that turns right.
func shoelace(l []api.Vec) int {
	sum := 0
	for i, a := range l {
		sum += turn(l[0], a, l[next(l, i)])
	}
	return sum
}

// size returns the magnitude of a number.
func size(n int) int { return max(n, -n) }

func TestArea2(t *testing.T) {
	if n, e := fence.Area2(yard()); n != 192 || e != api.OK {
		t.Error(n, e)
	}
	if n, e := fence.Area2(greatest()); n != 8*(2*far-1) || e != api.OK {
		t.Error(n, e)
	}
	r := source()
	l := fences()
	for range 200 {
		l = append(l, randomFence(r, 7))
	}
	for _, f := range l {
		want := size(shoelace(f.Outer))
		for _, hole := range f.Holes {
			want -= size(shoelace(hole))
		}
		if n, e := fence.Area2(f); n != want || n <= 0 || e != api.OK {
			t.Error(f, n, e, want)
		}
	}
}

// TestAreaOfPoints counts points: by Pick's theorem twice an area is twice the points inside and those on the border, less 2, for a polygon.
func TestAreaOfPoints(t *testing.T) {
	r := source()
	for range 150 {
		f := randomFence(r, 8)
		want := 0
		for i, l := range append([][]api.Vec{f.Outer}, f.Holes...) {
			sum := -2
			for j := range 9 * 9 {
				sum += side(l, spotOf(v(j%9, j/9, 0))) + 1
			}
			if i > 0 {
				sum = -sum
			}
			want += sum
		}
		if n, e := fence.Area2(f); n != want || e != api.OK {
			t.Error(f, n, e, want)
		}
	}
}

// P8.5

func TestEdgesExamples(t *testing.T) {
	want := p(0, 0, 10, 0, 10, 0, 10, 10, 10, 10, 0, 10, 0, 10, 0, 0, 4, 4, 4, 6, 4, 6, 6, 6, 6, 6, 6, 4, 6, 4, 4, 4)
	f := yard()
	if l := edgesOf(f); !slices.Equal(l, want) {
		t.Error(l)
	}
	// The other way round, from the same corners.
	f.Outer, f.Holes = p(0, 0, 0, 10, 10, 10, 10, 0), [][]api.Vec{p(4, 4, 6, 4, 6, 6, 4, 6)}
	if l := edgesOf(f); !slices.Equal(l, want) {
		t.Error(l)
	}
	for i, c := range f.Outer {
		f.Outer[i] = v(c.X, c.Y, 7*i-9)
	}
	for i, c := range f.Holes[0] {
		f.Holes[0][i] = v(c.X, c.Y, far-i)
	}
	if l := edgesOf(f); !slices.Equal(l, want) {
		t.Error(l)
	}
	f.Outer = p(10, 10, 10, 0, 0, 0, 0, 10)
	f.Holes = append([][]api.Vec{p(1, 3, 1, 1, 2, 1)}, f.Holes...)
	want = append(p(10, 10, 0, 10, 0, 10, 0, 0, 0, 0, 10, 0, 10, 0, 10, 10, 1, 3, 2, 1, 2, 1, 1, 1, 1, 1, 1, 3), want[8:]...)
	if l := edgesOf(f); !slices.Equal(l, want) {
		t.Error(l)
	}
}

func TestEdges(t *testing.T) {
	r := source()
	l := fences()
	for range 200 {
		l = append(l, randomFence(r, 7))
	}
	for _, f := range l {
		var want []api.Vec
		for i, polygon := range append([][]api.Vec{f.Outer}, f.Holes...) {
			round := slices.Clone(polygon)
			if (shoelace(round) > 0) != (i == 0) {
				slices.Reverse(round[1:])
			}
			for j, a := range round {
				want = append(want, flat(a), flat(round[next(round, j)]))
			}
		}
		if got := edgesOf(f); !slices.Equal(got, want) {
			t.Error(f, got)
		}
	}
}

func TestTheIteratorOfEdges(t *testing.T) {
	f := clone(yard())
	edges := fence.Edges(f)
	want := edgesOf(f)
	// It uses the fence as it was at the call.
	f.Outer[0], f.Holes[0][2], f.Holes[0] = v(-50, -50, 0), v(5, 9, 0), nil
	for stop := range 9 {
		var got []api.Vec
		for a, b := range edges {
			if len(got) == 2*stop {
				break
			}
			got = append(got, a, b)
		}
		if !slices.Equal(got, want[:min(2*stop, len(want))]) {
			t.Error(stop, got)
		}
	}
	for range 2 {
		many := 0
		for range edges {
			for range edges {
				many++
			}
		}
		if many != 64 {
			t.Error(many)
		}
	}
}

// P8.6

// nearest returns the squared distance of a point to the nearest edge, from the point of each edge that is nearest.
func nearest(f api.Fence, at api.Vec) *big.Rat {
	var least *big.Rat
	for a, b := range fence.Edges(f) {
		along := less(b, a)
		t := big.NewRat(int64(dot(along, less(at, a))), int64(dot(along, along)))
		if t.Sign() < 0 {
			t = new(big.Rat)
		}
		if t.Cmp(big.NewRat(1, 1)) > 0 {
			t = big.NewRat(1, 1)
		}
		foot, from := between(spotOf(a), spotOf(b), t), spotOf(at)
		x, y := new(big.Rat).Sub(foot.x, from.x), new(big.Rat).Sub(foot.y, from.y)
		square := new(big.Rat).Add(x.Mul(x, x), y.Mul(y, y))
		if least == nil || square.Cmp(least) < 0 {
			least = square
		}
	}
	return least
}

// lowest returns a number that is not negative as a ratio.
func lowest(n *big.Rat) api.Ratio {
	return api.Ratio{Num: api.Wide{Mag: string(n.Num().Bytes())}, Den: api.Wide{Mag: string(n.Denom().Bytes())}}
}

func TestDistance2Examples(t *testing.T) {
	slope := api.Fence{Outer: p(0, 0, 3, 1, 0, 9)}
	great := api.Fence{Outer: p(-far, -far, far, far-1, far, far, -far, far)}
	// The nearest edge of great to the point far, -far goes along 2 far, 2 far - 1.
	l := 2 * far
	square, _ := wide.Mul(wide.Of(l*(l-1)), wide.Of(l*(l-1)))
	greatDistance, _ := wide.Ratio(square, wide.Of(l*l+(l-1)*(l-1)))
	for i, c := range []struct {
		f    api.Fence
		at   api.Vec
		want api.Ratio
	}{
		{yard(), v(3, 3, 0), ratio(2, 1)},
		{yard(), v(20, 5, 0), ratio(100, 1)},
		{yard(), v(5, 5, 0), ratio(1, 1)},
		{yard(), v(0, 0, 99), ratio(0, 1)},
		{yard(), v(13, 14, -7), ratio(25, 1)},
		{yard(), v(2, 5, 0), ratio(4, 1)},
		{slope, v(1, 0, 0), ratio(1, 10)},
		{slope, v(1, 5, 0), ratio(16, 73)},
		{slope, v(1, 4, 0), ratio(49, 73)},
		{slope, v(2, 1, 0), ratio(1, 10)},
		{slope, v(3, 2, far), ratio(9, 73)},
		{api.Fence{Outer: p(-far, -far, 1-far, -far, -far, 1-far)}, v(far, -far, 0), ratio((2*far-1)*(2*far-1), 1)},
		{slope, v(-3, -4, -far), ratio(25, 1)},
		{greatest(), v(0, 0, 0), ratio((far-1)*(far-1), 1)},
		{great, v(far, -far, 0), greatDistance},
	} {
		got, e := fence.Distance2(c.f, c.at)
		isRatio(t, i, got, e, c.want)
	}
}

func TestDistance2(t *testing.T) {
	r := source()
	l := []api.Fence{yard(), hooks(), greatest()}
	for range 200 {
		l = append(l, randomFence(r, 9))
	}
	for _, f := range l {
		for range 40 {
			at := v(r.Intn(16)-3, r.Intn(16)-3, r.Intn(2*far+1)-far)
			got, e := fence.Distance2(f, at)
			isRatio(t, at, got, e, lowest(nearest(f, at)))
			at = v(r.Intn(2*far+1)-far, r.Intn(2*far+1)-far, 0)
			got, e = fence.Distance2(f, at)
			isRatio(t, at, got, e, lowest(nearest(f, at)))
		}
	}
	got, e := fence.Distance2(combs(), v(400, 50, 0))
	isRatio(t, "combs", got, e, lowest(nearest(combs(), v(400, 50, 0))))
}
