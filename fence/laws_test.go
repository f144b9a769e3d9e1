package fence_test

import (
	"slices"
	"testing"

	"skylantern/api"
	"skylantern/fence"
)

// P8.7

// turned returns a fence whose lists go the other way round or begin at other corners, by a number.
func turned(f api.Fence, number int) api.Fence {
	out := clone(f)
	for i, l := range append([][]api.Vec{out.Outer}, out.Holes...) {
		if (number>>i)&1 == 1 {
			slices.Reverse(l)
		}
		from := number % len(l)
		copy(l, slices.Concat(l[from:], l[:from]))
	}
	return out
}

func TestTurningAListChangesNothing(t *testing.T) {
	r := source()
	l := []api.Fence{yard(), hooks()}
	for range 100 {
		l = append(l, randomFence(r, 9))
	}
	for _, f := range l {
		for range 20 {
			g := turned(f, r.Intn(1<<20))
			area, _ := fence.Area2(f)
			if n, e := fence.Area2(g); !fence.Valid(g) || n != area || e != api.OK {
				t.Fatal(f, g, n, e)
			}
			a, b := v(r.Intn(12)-1, r.Intn(12)-1, f.Low), v(r.Intn(12)-1, r.Intn(12)-1, f.High)
			if inside(t, f, a) != inside(t, g, a) || holds(t, f, a, b) != holds(t, g, a, b) {
				t.Fatal(f, g, a, b)
			}
			want, _ := fence.Distance2(f, a)
			d, e := fence.Distance2(g, a)
			isRatio(t, a, d, e, want)
		}
	}
	for name, f := range invalid() {
		if slices.ContainsFunc(append(f.Holes, f.Outer), func(l []api.Vec) bool { return len(l) == 0 }) {
			continue
		}
		for range 20 {
			if g := turned(f, r.Intn(1<<20)); fence.Valid(g) {
				t.Error(name, g)
			}
		}
	}
}

func TestALineThatIsHeldHasOnlyPointsThatAreInside(t *testing.T) {
	r := source()
	for range 200 {
		f := randomFence(r, 9)
		for range 40 {
			a, b := v(r.Intn(10), r.Intn(10), f.Low), v(r.Intn(10), r.Intn(10), f.High)
			if is, e := fence.Holds(f, a, a); is != inside(t, f, a) || e != api.OK {
				t.Fatal(f, a, is, e)
			}
			if !holds(t, f, a, b) {
				continue
			}
			for num := range 13 {
				part := func(from, to int) api.Ratio { return ratio(12*from+(to-from)*num, 12) }
				if is, e := fence.InsideAt(f, part(a.X, b.X), part(a.Y, b.Y), part(a.Z, b.Z)); !is || e != api.OK {
					t.Fatal(f, a, b, num)
				}
			}
		}
	}
}

func TestCornersAreInTheFence(t *testing.T) {
	r := source()
	l := fences()
	for range 200 {
		l = append(l, randomFence(r, 9))
	}
	for _, f := range l {
		corners := slices.Concat(append(f.Holes, f.Outer)...)
		for i := 0; i < len(corners); i += 1 + len(corners)/50 {
			corner := corners[i]
			low, high := v(corner.X, corner.Y, f.Low), v(corner.X, corner.Y, f.High)
			d, e := fence.Distance2(f, corner)
			isRatio(t, corner, d, e, ratio(0, 1))
			if !inside(t, f, low) || !inside(t, f, high) || !holds(t, f, low, high) {
				t.Error(f, corner)
			}
		}
	}
}

func TestEdgesAreHeldAndHaveTheFenceOnTheirLeft(t *testing.T) {
	for _, f := range fences() {
		sum, edges := 0, edgesOf(f)
		for i := 0; i < len(edges); i += 2 {
			a, b := edges[i], edges[i+1]
			sum += a.X*b.Y - a.Y*b.X
			if i > 100 && i%50 > 0 {
				continue
			}
			if !holds(t, f, v(a.X, a.Y, f.Low), v(b.X, b.Y, f.High)) {
				t.Error(f, a, b)
			}
			// A place beside the middle of the edge, so near that nothing else is there.
			const den = 1 << 50
			x, y := (a.X+b.X)*(den/2), (a.Y+b.Y)*(den/2)
			if max(size(a.X+b.X), size(a.Y+b.Y)) > 1<<12 {
				continue
			}
			for beside := -1; beside <= 1; beside++ {
				is, e := fence.InsideAt(f, ratio(x-beside*(b.Y-a.Y), den), ratio(y+beside*(b.X-a.X), den), ratio(f.Low, 1))
				if is != (beside >= 0) || e != api.OK {
					t.Error(f, a, b, beside, is, e)
				}
			}
		}
		if n, e := fence.Area2(f); n != sum || e != api.OK {
			t.Error(f, n, sum, e)
		}
	}
}

// The rules of all layers

func TestArgumentsAreNotChanged(t *testing.T) {
	same := func(f, g api.Fence) bool {
		return slices.Equal(f.Outer, g.Outer) && slices.EqualFunc(f.Holes, g.Holes, slices.Equal) && f.Low == g.Low && f.High == g.High
	}
	r := source()
	l := fences()
	for _, f := range invalid() {
		l = append(l, f)
	}
	for _, f := range l {
		for range 10 {
			f = turned2(f, r.Intn(1<<20))
			g := clone(f)
			fence.Simple(f.Outer)
			fence.Valid(f)
			fence.Area2(f)
			fence.Inside(f, v(1, 1, f.Low))
			fence.InsideAt(f, ratio(1, 1), ratio(1, 2), ratio(f.Low, 1))
			fence.Holds(f, v(1, 1, f.Low), v(3, 2, f.Low))
			fence.Distance2(f, v(1, 1, 1))
			edgesOf(f)
			if !same(f, g) {
				t.Fatal(f, g)
			}
		}
	}
}

// turned2 is turned for fences that may have empty lists, which stay as they are.
func turned2(f api.Fence, number int) api.Fence {
	if len(f.Outer) == 0 || slices.ContainsFunc(f.Holes, func(l []api.Vec) bool { return len(l) == 0 }) {
		return f
	}
	return turned(f, number)
}
