package vector_test

import (
	"cmp"
	"math"
	"math/big"
	"slices"
	"testing"

	"skylantern/api"
	"skylantern/vector"
)

// P6.1

func TestLimitsAreThoseOfTheChapter(t *testing.T) {
	if most != 16777216 || vector.MaxDen != 4294967296 {
		t.Error(most, vector.MaxDen)
	}
}

func TestPointAndValidAtLimits(t *testing.T) {
	for _, is := range []struct {
		limit int
		name  string
		holds func(api.Vec) bool
	}{{1 << 20, "Point", vector.Point}, {1 << 24, "Valid", vector.Valid}} {
		for _, n := range []int{0, 1, is.limit - 1, is.limit, is.limit + 1, 1 << 25, 1 << 32, 1 << 62, math.MaxInt} {
			want := n <= is.limit
			for _, n := range []int{n, -n} {
				for _, l := range []api.Vec{v(n, 0, 0), v(0, n, 0), v(0, 0, n), v(n, n, n), v(n, -is.limit, is.limit), v(is.limit, n, -is.limit), v(-is.limit, is.limit, n)} {
					if is.holds(l) != want {
						t.Error(is.name, l)
					}
				}
			}
		}
		for _, l := range []api.Vec{v(math.MinInt, 0, 0), v(0, math.MinInt, 0), v(0, 0, math.MinInt)} {
			if is.holds(l) {
				t.Error(is.name, l)
			}
		}
	}
}

func TestCompareIsByXThenYThenZ(t *testing.T) {
	for _, c := range []struct {
		a, b api.Vec
		want int
	}{
		{v(0, 0, 0), v(0, 0, 0), 0},
		{v(1, 9, 9), v(2, 0, 0), -1},
		{v(2, 1, 9), v(2, 2, 0), -1},
		{v(2, 2, 1), v(2, 2, 2), -1},
		{v(-2, 0, 0), v(-1, -5, -5), -1},
		{v(0, 0, -3), v(0, 0, 3), -1},
		{v(5, -3, 4), v(5, -3, 4), 0},
		{v(math.MinInt, 0, 0), v(math.MaxInt, 0, 0), -1},
		{v(0, math.MinInt, 0), v(0, math.MaxInt, 0), -1},
		{v(0, 0, math.MinInt), v(0, 0, math.MaxInt), -1},
		{v(math.MinInt, math.MaxInt, 0), v(math.MinInt, math.MaxInt, 0), 0},
	} {
		if vector.Compare(c.a, c.b) != c.want || vector.Compare(c.b, c.a) != -c.want {
			t.Error(c.a, c.b, c.want)
		}
	}
}

func TestCompareAgreesWithLists(t *testing.T) {
	r := source()
	for range 3000 {
		a, b := v(r.Intn(3)-1, r.Intn(3)-1, r.Intn(3)-1), v(r.Intn(3)-1, r.Intn(3)-1, r.Intn(3)-1)
		x, y := parts(a), parts(b)
		if vector.Compare(a, b) != slices.Compare(x[:], y[:]) {
			t.Error(a, b)
		}
	}
}

// P6.2

func TestSumExamples(t *testing.T) {
	a, b := v(1, 2, 3), v(4, 5, 6)
	sum, e := vector.Add(a, b)
	sameVec(t, "Add", sum, e, v(5, 7, 9), api.OK)
	difference, e := vector.Sub(a, b)
	sameVec(t, "Sub", difference, e, v(-3, -3, -3), api.OK)
	product, e := vector.Scale(v(1, -2, 3), -4)
	sameVec(t, "Scale", product, e, v(-4, 8, -12), api.OK)
}

// wanted returns a vector, if it is valid, or ErrRange.
func wanted(a big3) (api.Vec, api.Errno) {
	out, valid := a.vec()
	if !valid {
		return api.Vec{}, api.ErrRange
	}
	return out, api.OK
}

func TestAddAndSub(t *testing.T) {
	for _, p := range pairs() {
		for _, f := range []struct {
			call func(a, b api.Vec) (api.Vec, api.Errno)
			op   operation
		}{{vector.Add, (*big.Int).Add}, {vector.Sub, (*big.Int).Sub}} {
			got, e := f.call(p[0], p[1])
			want, wantErr := wanted(bigOf(p[0]).with(f.op, bigOf(p[1])))
			sameVec(t, p, got, e, want, wantErr)
		}
	}
}

func TestSumsAtTheLimit(t *testing.T) {
	for _, at := range []func(n int) api.Vec{func(n int) api.Vec { return v(n, 0, 0) }, func(n int) api.Vec { return v(0, n, 0) }, func(n int) api.Vec { return v(0, 0, n) }} {
		for _, sign := range []int{1, -1} {
			sum, e := vector.Add(at(sign*(most-7)), at(sign*7))
			sameVec(t, "Add to the limit", sum, e, at(sign*most), api.OK)
			sum, e = vector.Add(at(sign*(most-7)), at(sign*8))
			sameVec(t, "Add beyond the limit", sum, e, api.Vec{}, api.ErrRange)
			sum, e = vector.Sub(at(sign*(most-7)), at(sign*-7))
			sameVec(t, "Sub to the limit", sum, e, at(sign*most), api.OK)
			sum, e = vector.Sub(at(sign*(most-7)), at(sign*-8))
			sameVec(t, "Sub beyond the limit", sum, e, api.Vec{}, api.ErrRange)
		}
	}
}

// factors returns numbers to scale with.
func factors() []int {
	out := []int{0, 1, 2, 3, 7, 1 << 10, most / 2, most/2 + 1, most - 1, most, most + 1, most + 2, 1 << 39, 1 << 40, 1 << 41, 1 << 60, 1 << 62, math.MaxInt}
	for _, n := range slices.Clone(out) {
		out = append(out, -n)
	}
	return append(out, math.MinInt)
}

func TestScale(t *testing.T) {
	r := source()
	vectors := append(corners(), v(1, 0, 0), v(0, -1, 0), v(0, 0, 2), v(2, -2, 1), v(most/2, 0, 1), v(0, most/3, 0), v(1<<12, 0, -1<<12))
	for range 500 {
		vectors = append(vectors, randomVec(r))
	}
	for _, a := range vectors {
		for _, by := range append(factors(), randomPart(r, 20), randomPart(r, most)) {
			got, e := vector.Scale(a, by)
			want, wantErr := wanted(bigOf(a).with((*big.Int).Mul, bigOf(v(by, by, by))))
			sameVec(t, []any{a, by}, got, e, want, wantErr)
		}
	}
}

func TestScaleExamplesOfTheChapter(t *testing.T) {
	got, e := vector.Scale(v(1<<24, 0, 0), 2)
	sameVec(t, "too great", got, e, api.Vec{}, api.ErrRange)
	got, e = vector.Scale(v(0, 0, 0), 1<<60)
	sameVec(t, "nothing", got, e, api.Vec{}, api.OK)
}

func TestErrArgOfSums(t *testing.T) {
	for _, bad := range invalid() {
		for _, good := range append(corners(), v(1, 2, 3), bad) {
			for _, f := range []func(a, b api.Vec) (api.Vec, api.Errno){vector.Add, vector.Sub} {
				got, e := f(bad, good)
				sameVec(t, bad, got, e, api.Vec{}, api.ErrArg)
				got, e = f(good, bad)
				sameVec(t, bad, got, e, api.Vec{}, api.ErrArg)
			}
		}
		for _, by := range factors() {
			got, e := vector.Scale(bad, by)
			sameVec(t, bad, got, e, api.Vec{}, api.ErrArg)
		}
	}
}

func TestOrderSortsVectors(t *testing.T) {
	r := source()
	l := corners()
	r.Shuffle(len(l), func(i, j int) { l[i], l[j] = l[j], l[i] })
	slices.SortFunc(l, vector.Compare)
	want := corners()
	slices.SortFunc(want, func(a, b api.Vec) int {
		return cmp.Or(cmp.Compare(a.X, b.X), cmp.Compare(a.Y, b.Y), cmp.Compare(a.Z, b.Z))
	})
	if !slices.Equal(l, want) {
		t.Error(l)
	}
}
