package vector_test

import (
	"math"
	"math/big"
	"math/rand"
	"testing"

	"skylantern/api"
	"skylantern/vector"
)

// most is the greatest part of a valid vector.
const most = vector.MaxPart

// v returns a vector.
func v(x, y, z int) api.Vec { return api.Vec{X: x, Y: y, Z: z} }

// parts returns the parts of a vector.
func parts(v api.Vec) [3]int { return [3]int{v.X, v.Y, v.Z} }

// big3 is a vector with parts of any size.
type big3 [3]*big.Int

// bigOf returns a vector as a big one.
func bigOf(v api.Vec) big3 {
	var out big3
	for i, n := range parts(v) {
		out[i] = big.NewInt(int64(n))
	}
	return out
}

// operation is a method of big integers that sets the first one to a result.
type operation func(z, x, y *big.Int) *big.Int

// with returns the results of an operation on the parts of two vectors.
func (a big3) with(op operation, b big3) big3 {
	var out big3
	for i := range out {
		out[i] = op(new(big.Int), a[i], b[i])
	}
	return out
}

// dot returns the scalar product.
func (a big3) dot(b big3) *big.Int {
	sum := new(big.Int)
	for _, n := range a.with((*big.Int).Mul, b) {
		sum.Add(sum, n)
	}
	return sum
}

// cross returns the vector product.
func (a big3) cross(b big3) big3 {
	var out big3
	for i := range out {
		j, k := (i+1)%3, (i+2)%3
		plus, minus := new(big.Int).Mul(a[j], b[k]), new(big.Int).Mul(a[k], b[j])
		out[i] = plus.Sub(plus, minus)
	}
	return out
}

// vec returns the vector with parts that fit into ints, and whether it is valid.
func (a big3) vec() (out api.Vec, valid bool) {
	limit := big.NewInt(most)
	for _, n := range a {
		if n.CmpAbs(limit) > 0 {
			return api.Vec{}, false
		}
	}
	return a.raw(), true
}

// raw returns the vector with parts that fit into ints.
func (a big3) raw() api.Vec {
	return v(int(a[0].Int64()), int(a[1].Int64()), int(a[2].Int64()))
}

// source returns numbers that look random and are the same in every run.
func source() *rand.Rand { return rand.New(rand.NewSource(1)) }

// randomPart returns a number from -limit to limit, often a small one or one at a limit.
func randomPart(r *rand.Rand, limit int) int {
	n := 0
	switch r.Intn(4) {
	case 0:
		n = r.Intn(4)
	case 1:
		n = limit - r.Intn(3)
	default:
		n = r.Intn(limit + 1)
	}
	if r.Intn(2) == 0 {
		return -n
	}
	return n
}

// randomVec returns a valid vector; half of them are small.
func randomVec(r *rand.Rand) api.Vec {
	limit := most
	if r.Intn(2) == 0 {
		limit = 9
	}
	return v(randomPart(r, limit), randomPart(r, limit), randomPart(r, limit))
}

// corners returns the vectors whose parts are all at a limit of valid ones, or 0.
func corners() []api.Vec {
	var out []api.Vec
	for i := range 27 {
		out = append(out, v((i%3-1)*most, (i/3%3-1)*most, (i/9-1)*most))
	}
	return out
}

// pairs returns pairs of valid vectors.
func pairs() [][2]api.Vec {
	var out [][2]api.Vec
	for _, a := range corners() {
		for _, b := range corners() {
			out = append(out, [2]api.Vec{a, b})
		}
	}
	r := source()
	for range 3000 {
		out = append(out, [2]api.Vec{randomVec(r), randomVec(r)})
	}
	return out
}

// invalid returns vectors that are not valid: one part of each is too great or too small.
func invalid() []api.Vec {
	var out []api.Vec
	for _, n := range []int{most + 1, -most - 1, math.MaxInt, math.MinInt, 1 << 32, -1 << 40} {
		out = append(out, v(n, 0, 0), v(0, n, 0), v(0, 0, n), v(n, most, -most), v(-1, n, 1), v(1, -1, n))
	}
	return out
}

// sameVec fails unless a vector and an error are those that are wanted.
func sameVec(t *testing.T, what any, got api.Vec, e api.Errno, want api.Vec, wantErr api.Errno) {
	t.Helper()
	if got != want || e != wantErr {
		t.Errorf("%v: %v %v, not %v %v", what, got, e, want, wantErr)
	}
}

// sameInt fails unless a number and an error are those that are wanted.
func sameInt(t *testing.T, what any, got int, e api.Errno, want int, wantErr api.Errno) {
	t.Helper()
	if got != want || e != wantErr {
		t.Errorf("%v: %v %v, not %v %v", what, got, e, want, wantErr)
	}
}
