package vector_test

import (
	"math/big"
	"slices"
	"testing"

	"skylantern/api"
	"skylantern/vector"
)

// P6.5

// turn returns the turn of three vectors.
func turn(a, b, c api.Vec) int {
	first, second := bigOf(b).with((*big.Int).Sub, bigOf(a)), bigOf(c).with((*big.Int).Sub, bigOf(a))
	return first.cross(second)[2].Sign()
}

func TestTurnExamples(t *testing.T) {
	for _, c := range []struct {
		a, b, c api.Vec
		want    int
	}{
		{v(0, 0, 0), v(1, 0, 0), v(1, 1, 0), 1},
		{v(0, 0, 0), v(1, 1, 0), v(2, 2, 9), 0},
		{v(0, 0, 0), v(1, 0, 0), v(1, -1, 0), -1},
		{v(3, 3, 0), v(3, 3, 5), v(9, -9, 0), 0},
		{v(5, 1, 0), v(5, 4, 0), v(4, 0, 0), 1},
		{v(1, 2, 3), v(1, 2, 3), v(1, 2, 3), 0},
		{v(-most, -most, 0), v(most, most, 0), v(most, most-1, 0), -1},
		{v(-most, -most, 0), v(most, most, 0), v(-most, 1-most, 0), 1},
		{v(most, most, most), v(-most, most, -most), v(-most, -most, most), 1},
	} {
		got, e := vector.Turn(c.a, c.b, c.c)
		sameInt(t, c, got, e, c.want, api.OK)
	}
}

// triples returns triples of valid vectors; many of them are on a line.
func triples() [][3]api.Vec {
	var out [][3]api.Vec
	r := source()
	for _, p := range pairs() {
		out = append(out, [3]api.Vec{p[0], p[1], randomVec(r)})
		middle, _ := vector.Between(p[0], p[1], 1, 3)
		out = append(out, [3]api.Vec{p[0], p[1], middle})
		out = append(out, [3]api.Vec{p[0], p[0], p[1]})
	}
	for range 5000 {
		small := func() api.Vec { return v(r.Intn(5)-2, r.Intn(5)-2, r.Intn(5)-2) }
		out = append(out, [3]api.Vec{small(), small(), small()})
	}
	return out
}

func TestTurn(t *testing.T) {
	for _, l := range triples() {
		got, e := vector.Turn(l[0], l[1], l[2])
		sameInt(t, l, got, e, turn(l[0], l[1], l[2]), api.OK)
	}
}

func TestErrArgOfTurn(t *testing.T) {
	a, b := v(1, 2, 3), v(4, 5, 6)
	for _, bad := range invalid() {
		for _, l := range [][3]api.Vec{{bad, a, b}, {a, bad, b}, {a, b, bad}, {bad, bad, bad}} {
			got, e := vector.Turn(l[0], l[1], l[2])
			sameInt(t, l, got, e, 0, api.ErrArg)
		}
	}
}

// P6.7

func TestTurnChangesItsSign(t *testing.T) {
	for _, l := range triples() {
		n, _ := vector.Turn(l[0], l[1], l[2])
		first, _ := vector.Turn(l[1], l[0], l[2])
		second, _ := vector.Turn(l[0], l[2], l[1])
		third, _ := vector.Turn(l[2], l[1], l[0])
		if first != -n || second != -n || third != -n {
			t.Error(l, n, first, second, third)
		}
	}
}

// P6.6

// expectBox fails unless the box of some vectors is that of the sorted parts.
func expectBox(t *testing.T, l []api.Vec) {
	t.Helper()
	var sorted [3][]int
	for _, a := range l {
		for i, n := range parts(a) {
			sorted[i] = append(sorted[i], n)
		}
	}
	var ends [2][3]int
	for i, numbers := range sorted {
		slices.Sort(numbers)
		ends[0][i], ends[1][i] = numbers[0], numbers[len(numbers)-1]
	}
	low, high, e := vector.Box(l)
	if e != api.OK || parts(low) != ends[0] || parts(high) != ends[1] {
		t.Errorf("the box of %v is %v %v %v, not %v", l, low, high, e, ends)
	}
}

func TestBox(t *testing.T) {
	expectBox(t, []api.Vec{v(1, 5, 0), v(2, -3, 4)})
	expectBox(t, corners())
	for _, a := range corners() {
		expectBox(t, []api.Vec{a})
	}
	r := source()
	for range 2000 {
		l := make([]api.Vec, 1+r.Intn(7))
		for i := range l {
			l[i] = randomVec(r)
		}
		expectBox(t, l)
	}
}

func TestErrorsOfBox(t *testing.T) {
	for _, l := range [][]api.Vec{nil, {}} {
		if low, high, e := vector.Box(l); e != api.ErrNone || low != v(0, 0, 0) || high != v(0, 0, 0) {
			t.Error(low, high, e)
		}
	}
	for _, bad := range invalid() {
		for _, l := range [][]api.Vec{{bad}, {bad, v(1, 2, 3)}, {v(1, 2, 3), bad}, {v(1, 2, 3), bad, v(4, 5, 6)}} {
			if low, high, e := vector.Box(l); e != api.ErrArg || low != v(0, 0, 0) || high != v(0, 0, 0) {
				t.Error(l, low, high, e)
			}
		}
	}
}

func TestBoxDoesNotModifyItsList(t *testing.T) {
	l := append(corners(), v(1, 2, 3))[:27]
	first, last, _ := vector.Box(l)
	if !slices.Equal(l[:28], append(corners(), v(1, 2, 3))) {
		t.Error(l[:28])
	}
	low, high, _ := vector.Box(l)
	if low != first || high != last {
		t.Error(low, high)
	}
}
