package wide

import "math/bits"

// commonDivisor returns the greatest common divisor of two magnitudes (Lehmer's method: many steps of Euclid's algorithm are found from the highest bits, and then made at once).
func commonDivisor(a, b []uint64) []uint64 {
	if compareLimbs(a, b) < 0 {
		a, b = b, a
	}
	if len(b) > 1 {
		a, b = reducePair(a, b)
	}
	if len(b) == 0 {
		return a
	}
	return []uint64{commonWord(b[0], remainderWord(a, b[0]))}
}

// commonWord returns the greatest common divisor of two numbers.
func commonWord(a, b uint64) uint64 {
	for b != 0 {
		a, b = b, a%b
	}
	return a
}

// reducePair returns two magnitudes with the same common divisors, the first one not less than the second one, which has at most one limb; a is not less than b.
func reducePair(a, b []uint64) (x, y []uint64) {
	// The four buffers have room for every magnitude on the way: none is greater than a.
	x = append(make([]uint64, 0, len(a)), a...)
	y = append(make([]uint64, 0, len(a)), b...)
	nextX, nextY := make([]uint64, len(a)), make([]uint64, len(a))
	for len(y) > 1 {
		s := surest(x, y)
		if s.v0 == 0 {
			_, rest := divideLimbs(x, y)
			x, y = y, append(x[:0], rest...)
			continue
		}
		nextX, nextY = nextX[:len(x)], nextY[:len(x)]
		if s.even {
			difference(nextX, x, y, s.u0, s.v0)
			difference(nextY, y, x, s.v1, s.u1)
		} else {
			difference(nextX, y, x, s.v0, s.u0)
			difference(nextY, x, y, s.u1, s.v1)
		}
		x, nextX = trim(nextX), x
		y, nextY = trim(nextY), y
	}
	return x, y
}

// steps are some steps of Euclid's algorithm. An even number of steps makes u0 a - v0 b and v1 b - u1 a of a and b, an odd one v0 b - u0 a and u1 a - v1 b.
type steps struct {
	u0, v0, u1, v1 uint64
	even           bool
}

// surest returns the steps that the highest limbs of two magnitudes make sure; v0 is 0 if there are none. Both have at least two limbs, and a is not less than b.
func surest(a, b []uint64) steps {
	high, low := highest(a, b)
	s := steps{u1: 1}
	u2, v2 := uint64(0), uint64(1)
	// While Collins' condition holds, the quotients before the one that comes now are those of all numbers with these highest bits (Jebelean, A double-digit Lehmer-Euclid algorithm, section 4), and no factor reaches 2^64.
	for low >= v2 && high-low >= s.v1+v2 {
		q, rest := high/low, high%low
		high, low = low, rest
		s.u0, s.u1, u2 = s.u1, u2, s.u1+q*u2
		s.v0, s.v1, v2 = s.v1, v2, s.v1+q*v2
		s.even = !s.even
	}
	return s
}

// highest returns the 64 highest bits of a, and the bits of b at the same places.
func highest(a, b []uint64) (high, low uint64) {
	n := len(a)
	shift := uint(bits.LeadingZeros64(a[n-1]))
	high = a[n-1]<<shift | a[n-2]>>(64-shift)
	switch len(b) {
	case n:
		low = b[n-1]<<shift | b[n-2]>>(64-shift)
	case n - 1:
		low = b[n-2] >> (64 - shift)
	}
	return high, low
}

// difference writes a times u minus b times v, which is not negative, to out, which has at least as many limbs as a and b and as the result.
func difference(out, a, b []uint64, u, v uint64) {
	plus, minus, borrow := uint64(0), uint64(0), uint64(0)
	for i := range out {
		var x, y uint64
		plus, x = mulAdd(limbAt(a, i), u, plus)
		minus, y = mulAdd(limbAt(b, i), v, minus)
		out[i], borrow = bits.Sub64(x, y, borrow)
	}
}

// limbAt returns a limb of a magnitude, 0 beyond its end.
func limbAt(a []uint64, i int) uint64 {
	if i < len(a) {
		return a[i]
	}
	return 0
}
