package wide

import "math/bits"

// divideLimbs returns the quotient and the remainder of two magnitudes; b is not 0.
func divideLimbs(a, b []uint64) (q, r []uint64) {
	if compareLimbs(a, b) < 0 {
		return nil, a
	}
	if len(b) == 1 {
		q = make([]uint64, len(a))
		rest := divideWord(q, a, b[0])
		return trim(q), trim([]uint64{rest})
	}
	// Only if the highest bit of b is set do the highest limbs tell a digit of the quotient nearly right (Knuth, volume 2, 4.3.1, algorithm D).
	shift := uint(bits.LeadingZeros64(b[len(b)-1]))
	rest, by := make([]uint64, len(a)+1), make([]uint64, len(b)+1)
	shiftInto(rest, a, shift)
	shiftInto(by, b, shift)
	by = by[:len(b)]
	q = make([]uint64, len(a)-len(b)+1)
	for i := len(q) - 1; i >= 0; i-- {
		q[i] = divideStep(rest[i:i+len(b)+1], by)
	}
	return trim(q), shiftRight(rest, int(shift))
}

// divideWord divides a magnitude by a limb that is not 0, writes the quotient to q, which has as many limbs (and may be the same), and returns the remainder.
func divideWord(q, a []uint64, by uint64) uint64 {
	rest := uint64(0)
	for i := len(a) - 1; i >= 0; i-- {
		q[i], rest = bits.Div64(rest, a[i], by)
	}
	return rest
}

// remainderWord returns the remainder of the division of a magnitude by a limb that is not 0.
func remainderWord(a []uint64, by uint64) uint64 {
	rest := uint64(0)
	for i := len(a) - 1; i >= 0; i-- {
		_, rest = bits.Div64(rest, a[i], by)
	}
	return rest
}

// divideStep divides rest, which has one limb more than by and is less than by times 2^64, returns the quotient, and leaves the remainder in rest.
func divideStep(rest, by []uint64) uint64 {
	n := len(by)
	digit := guessDigit(rest[n], rest[n-1], by[n-1], by[n-2])
	borrow := subProduct(rest[:n], by, digit)
	if rest[n] >= borrow {
		rest[n] -= borrow
		return digit
	}
	// The digit was too great by 1, which happens seldom: by is added back, and what goes beyond cancels the borrow.
	carry := uint64(0)
	for i, x := range by {
		rest[i], carry = bits.Add64(rest[i], x, carry)
	}
	rest[n] = 0
	return digit - 1
}

// guessDigit returns a digit of a quotient, or a number greater by 1, from the two highest limbs of the rest and of the divisor.
func guessDigit(high, middle, first, second uint64) uint64 {
	if high >= first {
		// Both are equal, so the digit is one of the two greatest ones.
		return 1<<64 - 1
	}
	digit, rest := bits.Div64(high, middle, first)
	// The first limb alone gives at most 2 too much. If it is 2, the second limb surely shows it, and whenever it shows something, the digit is too great.
	if top, _ := bits.Mul64(digit, second); top > rest {
		return digit - 1
	}
	return digit
}

// subProduct subtracts the product of a magnitude and a limb from out, which has as many limbs, and returns what is missing beyond them.
func subProduct(out, a []uint64, by uint64) uint64 {
	missing := uint64(0)
	out = out[:len(a)]
	for i, x := range a {
		high, low := mulAdd(x, by, missing)
		rest, more := bits.Sub64(out[i], low, 0)
		out[i], missing = rest, high+more
	}
	return missing
}
