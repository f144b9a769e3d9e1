package wide

import (
	"cmp"
	"math/bits"
)

// The functions of this file work on magnitudes: limbs as in a number. They change no argument but one called out.

// trim returns limbs without zeros at the end.
func trim(limbs []uint64) []uint64 {
	n := len(limbs)
	for n > 0 && limbs[n-1] == 0 {
		n--
	}
	return limbs[:n]
}

// compareLimbs returns -1, 0 or 1 if the first magnitude is less than, equal to or greater than the second one.
func compareLimbs(a, b []uint64) int {
	if len(a) != len(b) {
		return cmp.Compare(len(a), len(b))
	}
	for i := len(a) - 1; i >= 0; i-- {
		if a[i] != b[i] {
			return cmp.Compare(a[i], b[i])
		}
	}
	return 0
}

// addLimbs returns a sum.
func addLimbs(a, b []uint64) []uint64 {
	if len(a) < len(b) {
		a, b = b, a
	}
	out := make([]uint64, len(a)+1)
	carry := uint64(0)
	for i, x := range b {
		out[i], carry = bits.Add64(a[i], x, carry)
	}
	for i := len(b); i < len(a); i++ {
		out[i], carry = bits.Add64(a[i], 0, carry)
	}
	out[len(a)] = carry
	return trim(out)
}

// subLimbs returns a difference; b is at most a.
func subLimbs(a, b []uint64) []uint64 {
	out := make([]uint64, len(a))
	borrow := uint64(0)
	for i, x := range b {
		out[i], borrow = bits.Sub64(a[i], x, borrow)
	}
	for i := len(b); i < len(a); i++ {
		out[i], borrow = bits.Sub64(a[i], 0, borrow)
	}
	return trim(out)
}

// mulLimbs returns a product.
func mulLimbs(a, b []uint64) []uint64 {
	if len(a) < len(b) {
		// A few long rows are faster than many short ones.
		a, b = b, a
	}
	out := make([]uint64, len(a)+len(b))
	for i, x := range b {
		out[i+len(a)] = addProduct(out[i:i+len(a)], a, x)
	}
	return trim(out)
}

// addProduct adds the product of a magnitude and a limb to out, which has as many limbs, and returns what goes beyond them.
func addProduct(out, a []uint64, by uint64) uint64 {
	carry := uint64(0)
	out = out[:len(a)]
	for i, x := range a {
		high, low := mulAdd(x, by, carry)
		low, more := bits.Add64(low, out[i], 0)
		out[i], carry = low, high+more
	}
	return carry
}

// mulAdd returns the two limbs of the product of two limbs plus a third one. (One more limb could be added: (2^64 - 1)^2 + 2 (2^64 - 1) is 2^128 - 1.)
func mulAdd(a, b, c uint64) (high, low uint64) {
	high, low = bits.Mul64(a, b)
	low, more := bits.Add64(low, c, 0)
	return high + more, low
}

// shiftLeft returns a magnitude times 2 to the power of a number that is at least 0.
func shiftLeft(a []uint64, by int) []uint64 {
	if len(a) == 0 {
		return nil
	}
	whole, part := by/64, uint(by%64)
	out := make([]uint64, len(a)+whole+1)
	shiftInto(out[whole:], a, part)
	return trim(out)
}

// shiftInto writes a magnitude times 2 to the power of a number from 0 to 63 to out, which has at least one limb more.
func shiftInto(out, a []uint64, by uint) {
	carry := uint64(0)
	for i, x := range a {
		out[i] = x<<by | carry
		carry = x >> (64 - by)
	}
	out[len(a)] = carry
}

// shiftRight returns a magnitude divided by 2 to the power of a number that is at least 0, rounded down.
func shiftRight(a []uint64, by int) []uint64 {
	whole, part := by/64, uint(by%64)
	if whole >= len(a) {
		return nil
	}
	out := make([]uint64, len(a)-whole)
	carry := uint64(0)
	for i := len(out) - 1; i >= 0; i-- {
		x := a[i+whole]
		out[i] = x>>part | carry
		carry = x << (64 - part)
	}
	return trim(out)
}
