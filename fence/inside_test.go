package fence_test

import (
	"math/big"
	"math/rand"
	"testing"

	"skylantern/api"
	"skylantern/fence"
	"skylantern/wide"
)

// P8.3

// inside calls Inside and InsideAt, which have to agree.
func inside(t *testing.T, f api.Fence, at api.Vec) bool {
	t.Helper()
	is, e := fence.Inside(f, at)
	same, g := fence.InsideAt(f, ratio(at.X, 1), ratio(3*at.Y, 3), ratio(at.Z, 1))
	if e != api.OK || g != api.OK || is != same {
		t.Error(f, at, is, same, e, g)
	}
	return is
}

func TestInsideExamples(t *testing.T) {
	for at, want := range map[api.Vec]bool{
		v(5, 5, 3): false, v(4, 5, 3): true, v(10, 10, 5): true, v(2, 2, 6): false, v(2, 2, 1): true, v(2, 2, 0): false,
		v(11, 5, 3): false, v(-1, 0, 3): false, v(0, 0, 3): true, v(6, 6, 1): true, v(5, 4, 5): true, v(0, 7, 2): true, v(10, 7, 2): true, v(7, 0, 2): true, v(7, 10, 2): true, v(7, 11, 2): false, v(7, -1, 2): false,
		v(-far, 5, 3): false, v(far, far, far): false, v(5, 5, -far): false,
	} {
		if inside(t, yard(), at) != want {
			t.Error(at, !want)
		}
	}
	for at, want := range map[api.Vec]bool{
		v(-far, -far, -far): true, v(far, far, far): true, v(far, 0, 0): true, v(far-1, 0, 0): true, v(far-2, 0, 0): false, v(0, 0, 0): false, v(1-far, 1-far, 0): true, v(2-far, 2-far, 0): false, v(2-far, 1-far, far): true,
	} {
		if inside(t, greatest(), at) != want {
			t.Error(at, !want)
		}
	}
}

func TestInsideForAllPointsOfSmallFences(t *testing.T) {
	r := source()
	l := fences()
	for range 150 {
		l = append(l, randomFence(r, 7))
	}
	for _, f := range l {
		for i := range 15 * 15 {
			at := v(i%15-1, i/15-1, f.Low+r.Intn(f.High-f.Low+1))
			want := covered(f, spotOf(at))
			if inside(t, f, at) != want {
				t.Fatal(f, at, !want)
			}
		}
	}
}

func TestInsideForAllHeights(t *testing.T) {
	for z := -2; z < 9; z++ {
		if want := z >= 1 && z <= 5; inside(t, yard(), v(1, 1, z)) != want {
			t.Error(z, !want)
		}
		if inside(t, yard(), v(5, 5, z)) {
			t.Error(z, "in the hole")
		}
	}
}

// randomRatio returns a ratio near a number, and the same as a big.Rat.
func randomRatio(r *rand.Rand, near int) (api.Ratio, *big.Rat) {
	den := 1 + r.Intn([]int{2, 3, 5, 1000}[r.Intn(4)])
	num := near*den + r.Intn(3) - 1
	return ratio(num, den), big.NewRat(int64(num), int64(den))
}

func TestInsideAt(t *testing.T) {
	r := source()
	l := fences()
	for range 200 {
		l = append(l, randomFence(r, 5))
	}
	for _, f := range l {
		for range 100 {
			x, east := randomRatio(r, r.Intn(12)-1)
			y, north := randomRatio(r, r.Intn(12)-1)
			z, up := randomRatio(r, f.Low+r.Intn(f.High-f.Low+1))
			inHeight := up.Cmp(big.NewRat(int64(f.Low), 1)) >= 0 && up.Cmp(big.NewRat(int64(f.High), 1)) <= 0
			want := inHeight && covered(f, spot{east, north})
			if is, e := fence.InsideAt(f, x, y, z); is != want || e != api.OK {
				t.Fatal(f, east, north, up, is, e)
			}
		}
	}
}

func TestInsideAtExamples(t *testing.T) {
	slope := api.Fence{Outer: p(0, 0, 3, 1, 0, 9), Holes: [][]api.Vec{p(1, 1, 2, 2, 1, 2)}}
	zero := ratio(0, 7)
	for i, c := range []struct {
		f       api.Fence
		x, y, z api.Ratio
		want    bool
	}{
		{yard(), ratio(9, 2), ratio(9, 2), ratio(3, 1), false},
		{yard(), ratio(9, 2), ratio(4, 1), ratio(3, 1), true},
		{yard(), ratio(7, 2), ratio(9, 2), ratio(9, 2), true},
		{yard(), ratio(7, 2), ratio(9, 2), ratio(11, 2), false},
		{yard(), ratio(7, 2), ratio(9, 2), ratio(1, 2), false},
		{yard(), ratio(7, 2), ratio(9, 2), ratio(9, 9), true},
		{yard(), ratio(-1, 2), ratio(9, 2), ratio(2, 1), false},
		{yard(), ratio(1<<62, 1), ratio(9, 2), ratio(2, 1), false},
		{slope, ratio(3, 2), ratio(1, 2), zero, true},
		{slope, ratio(3, 2), ratio(499999, 1000000), zero, false},
		{slope, ratio(3, 2), ratio(3, 2), zero, true},
		{slope, ratio(3, 2), ratio(1500001, 1000000), zero, false},
		{slope, ratio(3, 2), ratio(1499999, 1000000), zero, true},
		{slope, ratio(1, 3), ratio(1, 9), zero, true},
		{slope, ratio(1, 3), ratio(1, 9), ratio(1, 1000), false},
	} {
		if is, e := fence.InsideAt(c.f, c.x, c.y, c.z); is != c.want || e != api.OK {
			t.Error(i, is, e)
		}
	}
}

// power returns 2 to the power of a number, plus another number.
func power(to, plus int) api.Wide {
	n, _ := wide.Shift(wide.Of(1), to)
	n, _ = wide.Add(n, wide.Of(plus))
	return n
}

func TestInsideAtWithLongRatios(t *testing.T) {
	const bits = fence.MaxRatio
	tiny := func(plus int) api.Ratio {
		// Just beside 1, as near as can be.
		return api.Ratio{Num: power(bits-1, plus), Den: power(bits-1, 0)}
	}
	f := api.Fence{Outer: p(1, 1, 5, 1, 1, 5), Low: 1, High: 2}
	for _, x := range []int{-1, 0, 1} {
		for _, y := range []int{-1, 0, 1} {
			for _, z := range []int{-1, 0, 1} {
				want := x >= 0 && y >= 0 && z >= 0
				if is, e := fence.InsideAt(f, tiny(x), tiny(y), tiny(z)); is != want || e != api.OK {
					t.Error(x, y, z, is, e)
				}
			}
		}
	}
	one, long, zero := ratio(1, 1), power(bits, 0), api.Ratio{}
	for _, bad := range []api.Ratio{{Num: long, Den: wide.Of(1)}, {Num: wide.Of(1), Den: long}, {Num: long, Den: long}, {Num: api.Wide{Neg: true, Mag: long.Mag}, Den: long}, {Num: wide.Of(0), Den: long}, {Num: power(wide.MaxBits-1, 0), Den: power(wide.MaxBits-1, 5)}} {
		for i, l := range [][3]api.Ratio{{bad, one, one}, {one, bad, one}, {one, one, bad}, {bad, bad, bad}} {
			if is, e := fence.InsideAt(f, l[0], l[1], l[2]); is || e != api.ErrFull {
				t.Error(i, is, e)
			}
			// An argument that is not valid comes first.
			for j := range l {
				bent := l
				bent[j] = zero
				if is, e := fence.InsideAt(f, bent[0], bent[1], bent[2]); is || e != api.ErrArg {
					t.Error(i, j, is, e)
				}
			}
			if is, e := fence.InsideAt(api.Fence{}, l[0], l[1], l[2]); is || e != api.ErrArg {
				t.Error(i, is, e)
			}
		}
	}
	most := api.Ratio{Num: power(bits-1, 1), Den: power(bits-1, 3)}
	if is, e := fence.InsideAt(combs(), most, most, most); !is || e != api.OK {
		t.Error(is, e)
	}
}

// badRatios returns ratios that are not valid.
func badRatios() []api.Ratio {
	one := wide.Of(1)
	return []api.Ratio{{}, {Num: one}, {Den: api.Wide{Mag: "\x00"}}, {Num: one, Den: wide.Of(-1)}, {Num: api.Wide{Neg: true}, Den: one}, {Num: api.Wide{Mag: "\x00\x01"}, Den: one}, {Num: one, Den: api.Wide{Mag: "\x00\x01"}}}
}

func TestErrorsOfInside(t *testing.T) {
	for _, bad := range []api.Vec{v(far+1, 0, 0), v(0, far+1, 0), v(0, 0, far+1), v(-far-1, 0, 0), v(0, -far-1, 0), v(0, 0, -far-1)} {
		if is, e := fence.Inside(yard(), bad); is || e != api.ErrArg {
			t.Error(bad, is, e)
		}
		if is, e := fence.Holds(yard(), bad, v(1, 1, 1)); is || e != api.ErrArg {
			t.Error(bad, is, e)
		}
		if is, e := fence.Holds(yard(), v(1, 1, 1), bad); is || e != api.ErrArg {
			t.Error(bad, is, e)
		}
		if d, e := fence.Distance2(yard(), bad); d != (api.Ratio{}) || e != api.ErrArg {
			t.Error(bad, d, e)
		}
	}
	one := ratio(1, 1)
	for i, bad := range badRatios() {
		for _, l := range [][3]api.Ratio{{bad, one, one}, {one, bad, one}, {one, one, bad}} {
			if is, e := fence.InsideAt(yard(), l[0], l[1], l[2]); is || e != api.ErrArg {
				t.Error(i, is, e)
			}
		}
	}
}
