package vector_test

import (
	"math/big"
	"testing"

	"skylantern/api"
	"skylantern/vector"
)

// P6.3

func TestProductExamples(t *testing.T) {
	n, e := vector.Dot(v(1, 2, 3), v(4, 5, 6))
	sameInt(t, "Dot", n, e, 32, api.OK)
	a, e := vector.Cross(v(1, 0, 0), v(0, 1, 0))
	sameVec(t, "Cross", a, e, v(0, 0, 1), api.OK)
	a, e = vector.Cross(v(1, 2, 3), v(4, 5, 7))
	sameVec(t, "Cross", a, e, v(-1, 5, -3), api.OK)
	n, e = vector.Length2(v(3, 4, 12))
	sameInt(t, "Length2", n, e, 169, api.OK)
	n, e = vector.Distance2(v(1, 1, 1), v(2, 3, 1))
	sameInt(t, "Distance2", n, e, 5, api.OK)
}

func TestProducts(t *testing.T) {
	for _, p := range pairs() {
		a, b := bigOf(p[0]), bigOf(p[1])
		dot, e := vector.Dot(p[0], p[1])
		sameInt(t, p, dot, e, int(a.dot(b).Int64()), api.OK)
		cross, e := vector.Cross(p[0], p[1])
		sameVec(t, p, cross, e, a.cross(b).raw(), api.OK)
		length, e := vector.Length2(p[0])
		sameInt(t, p, length, e, int(a.dot(a).Int64()), api.OK)
		way := a.with((*big.Int).Sub, b)
		distance, e := vector.Distance2(p[0], p[1])
		sameInt(t, p, distance, e, int(way.dot(way).Int64()), api.OK)
	}
}

func TestGreatestProducts(t *testing.T) {
	n, e := vector.Dot(v(most, most, most), v(-most, -most, -most))
	sameInt(t, "Dot", n, e, -3<<48, api.OK)
	a, e := vector.Cross(v(most, most, most), v(most, -most, most))
	sameVec(t, "Cross", a, e, v(2<<48, 0, -2<<48), api.OK)
	n, e = vector.Length2(v(-most, most, -most))
	sameInt(t, "Length2", n, e, 3<<48, api.OK)
	n, e = vector.Distance2(v(most, most, most), v(-most, -most, -most))
	sameInt(t, "Distance2", n, e, 3<<50, api.OK)
}

func TestErrArgOfProducts(t *testing.T) {
	for _, bad := range invalid() {
		n, e := vector.Length2(bad)
		sameInt(t, bad, n, e, 0, api.ErrArg)
		for _, good := range append(corners(), v(1, 2, 3), bad) {
			for _, p := range [][2]api.Vec{{bad, good}, {good, bad}} {
				n, e := vector.Dot(p[0], p[1])
				sameInt(t, p, n, e, 0, api.ErrArg)
				n, e = vector.Distance2(p[0], p[1])
				sameInt(t, p, n, e, 0, api.ErrArg)
				a, e := vector.Cross(p[0], p[1])
				sameVec(t, p, a, e, api.Vec{}, api.ErrArg)
			}
		}
	}
}

// P6.7

// square returns the square of a number.
func square(n int) *big.Int { return new(big.Int).Mul(big.NewInt(int64(n)), big.NewInt(int64(n))) }

func TestCrossIsPerpendicularAndDotItsPartner(t *testing.T) {
	for _, p := range pairs() {
		cross, _ := vector.Cross(p[0], p[1])
		across := bigOf(cross)
		if across.dot(bigOf(p[0])).Sign() != 0 || across.dot(bigOf(p[1])).Sign() != 0 {
			t.Error(p, cross)
		}
		dot, _ := vector.Dot(p[0], p[1])
		first, _ := vector.Length2(p[0])
		second, _ := vector.Length2(p[1])
		both := new(big.Int).Mul(big.NewInt(int64(first)), big.NewInt(int64(second)))
		if sum := square(dot); sum.Add(sum, across.dot(across)).Cmp(both) != 0 {
			t.Error(p, cross, dot)
		}
	}
}
