package vector_test

import (
	"math"
	"math/big"
	"testing"

	"skylantern/api"
	"skylantern/vector"
)

// P6.4

// between returns the point between two vectors: the floor of each part plus 1/2.
func between(a, b api.Vec, num, den int) api.Vec {
	share := big.NewRat(int64(num), int64(den))
	var out big3
	for i, to := range bigOf(b) {
		from := bigOf(a)[i]
		part := new(big.Rat).SetInt(new(big.Int).Sub(to, from))
		part.Add(part.Mul(part, share), new(big.Rat).SetInt(from))
		part.Add(part, big.NewRat(1, 2))
		// The division of big.Int leaves rests that are not negative, for a positive divisor.
		out[i] = new(big.Int).Div(part.Num(), part.Denom())
	}
	return out.raw()
}

// share is a numerator and a denominator.
type share struct{ num, den int }

// shares returns numerators and denominators that are allowed.
func shares() []share {
	out := []share{{0, 1}, {1, 1}, {vector.MaxDen, vector.MaxDen}, {0, vector.MaxDen}, {1, vector.MaxDen}, {vector.MaxDen - 1, vector.MaxDen}, {vector.MaxDen / 2, vector.MaxDen}, {vector.MaxDen/2 - 1, vector.MaxDen}, {vector.MaxDen/2 + 1, vector.MaxDen}, {vector.MaxDen / 2, vector.MaxDen - 1}}
	for den := 1; den <= 6; den++ {
		for num := 0; num <= den; num++ {
			out = append(out, share{num, den})
		}
	}
	r := source()
	for range 20 {
		den := 1 + r.Intn(vector.MaxDen)
		out = append(out, share{r.Intn(den + 1), den})
	}
	return out
}

func TestBetweenExamples(t *testing.T) {
	for _, c := range []struct {
		share
		want api.Vec
	}{{share{1, 4}, v(3, -2, 1)}, {share{1, 2}, v(5, -5, 2)}} {
		got, e := vector.Between(v(0, 0, 0), v(10, -10, 3), c.num, c.den)
		sameVec(t, c, got, e, c.want, api.OK)
	}
}

func TestBetweenRoundsHalvesUp(t *testing.T) {
	for _, c := range []struct {
		from, to, num, den, want int
	}{{0, 1, 1, 2, 1}, {1, 0, 1, 2, 1}, {0, -1, 1, 2, 0}, {-1, 0, 1, 2, 0}, {-1, -2, 1, 2, -1}, {-2, -1, 1, 2, -1}, {-3, 0, 1, 2, -1}, {0, -3, 1, 2, -1}, {-5, -2, 1, 2, -3}, {0, 5, 1, 2, 3}, {-1, 2, 1, 2, 1}, {0, 4, 1, 3, 1}, {0, -4, 1, 3, -1}, {0, 5, 1, 3, 2}, {0, -5, 1, 3, -2}, {0, -5, 3, 10, -1}, {0, 5, 3, 10, 2}, {0, 1, vector.MaxDen / 2, vector.MaxDen, 1}, {0, 1, vector.MaxDen/2 - 1, vector.MaxDen, 0}, {0, -1, vector.MaxDen / 2, vector.MaxDen, 0}, {0, -1, vector.MaxDen/2 + 1, vector.MaxDen, -1}} {
		got, e := vector.Between(v(c.from, 0, -7), v(c.to, 0, -7), c.num, c.den)
		sameVec(t, c, got, e, v(c.want, 0, -7), api.OK)
		got, e = vector.Between(v(0, c.from, 0), v(0, c.to, 0), c.num, c.den)
		sameVec(t, c, got, e, v(0, c.want, 0), api.OK)
		got, e = vector.Between(v(9, 0, c.from), v(9, 0, c.to), c.num, c.den)
		sameVec(t, c, got, e, v(9, 0, c.want), api.OK)
	}
}

func TestBetween(t *testing.T) {
	for i, p := range pairs() {
		for j, s := range shares() {
			if (i+j)%5 > 0 {
				continue // a fifth of them is enough
			}
			got, e := vector.Between(p[0], p[1], s.num, s.den)
			sameVec(t, []any{p, s}, got, e, between(p[0], p[1], s.num, s.den), api.OK)
		}
	}
}

func TestErrArgOfBetween(t *testing.T) {
	a, b := v(1, 2, 3), v(4, 5, 6)
	for _, s := range []share{{0, 0}, {1, 0}, {0, -1}, {-1, -1}, {-1, 1}, {-1, 5}, {2, 1}, {6, 5}, {0, vector.MaxDen + 1}, {1, vector.MaxDen + 1}, {vector.MaxDen + 1, vector.MaxDen + 1}, {vector.MaxDen + 1, vector.MaxDen}, {math.MaxInt, math.MaxInt}, {math.MinInt, math.MinInt}, {math.MinInt, 1}, {math.MaxInt, 1}, {0, math.MinInt}, {0, math.MaxInt}} {
		got, e := vector.Between(a, b, s.num, s.den)
		sameVec(t, s, got, e, api.Vec{}, api.ErrArg)
	}
	for _, bad := range invalid() {
		for _, s := range shares() {
			got, e := vector.Between(bad, b, s.num, s.den)
			sameVec(t, bad, got, e, api.Vec{}, api.ErrArg)
			got, e = vector.Between(a, bad, s.num, s.den)
			sameVec(t, bad, got, e, api.Vec{}, api.ErrArg)
		}
	}
}

// P6.7

func TestBetweenIsInTheBoxAndHasTheEnds(t *testing.T) {
	for _, p := range pairs() {
		low, high, e := vector.Box(p[:])
		if e != api.OK {
			t.Fatal(p, e)
		}
		for _, s := range shares() {
			got, _ := vector.Between(p[0], p[1], s.num, s.den)
			for i, n := range parts(got) {
				if n < parts(low)[i] || n > parts(high)[i] {
					t.Error(p, s, got)
				}
			}
			if s.num == 0 && got != p[0] || s.num == s.den && got != p[1] {
				t.Error(p, s, got)
			}
		}
	}
}
