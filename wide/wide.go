// Package wide: signed integers of at most 65536 bits, and fractions of them (layer 1).
package wide

import "skylantern/api"

// MaxBits is the maximum number of bits of a magnitude.
const MaxBits = 65536

// Valid reports whether a wide integer is valid.
func Valid(a api.Wide) bool {
	if len(a.Mag) == 0 {
		return !a.Neg
	}
	return len(a.Mag) <= MaxBits/8 && a.Mag[0] != 0
}

// Of returns an int as a wide integer.
func Of(n int) api.Wide {
	if n < 0 {
		// The conversion comes first: the smallest int has no negative.
		return fromWord(true, -uint64(n))
	}
	return fromWord(false, uint64(n))
}

// Int returns a wide integer as an int, or an error.
func Int(a api.Wide) (int, api.Errno) {
	if !Valid(a) {
		return 0, api.ErrArg
	}
	if len(a.Mag) > wordBytes {
		return 0, api.ErrRange
	}
	word := toWord(a.Mag)
	if a.Neg && word <= 1<<63 {
		return int(-word), api.OK
	}
	if !a.Neg && word < 1<<63 {
		return int(word), api.OK
	}
	return 0, api.ErrRange
}

// Neg returns the negative of a wide integer, or an error.
func Neg(a api.Wide) (api.Wide, api.Errno) {
	if !Valid(a) {
		return api.Wide{}, api.ErrArg
	}
	return api.Wide{Neg: !a.Neg && a.Mag != "", Mag: a.Mag}, api.OK
}

// Add returns the sum of two wide integers, or an error.
func Add(a, b api.Wide) (api.Wide, api.Errno) {
	if !Valid(a) || !Valid(b) {
		return api.Wide{}, api.ErrArg
	}
	return write(plus(read(a), read(b)))
}

// Sub returns the difference of two wide integers, or an error.
func Sub(a, b api.Wide) (api.Wide, api.Errno) {
	if !Valid(a) || !Valid(b) {
		return api.Wide{}, api.ErrArg
	}
	return write(plus(read(a), negative(read(b))))
}

// Mul returns the product of two wide integers, or an error.
func Mul(a, b api.Wide) (api.Wide, api.Errno) {
	if !Valid(a) || !Valid(b) {
		return api.Wide{}, api.ErrArg
	}
	// A product that is not 0 has at least this many bits, so hardly any that is too large needs to be calculated.
	if bitsOf(a.Mag)+bitsOf(b.Mag)-1 > MaxBits {
		return api.Wide{}, api.ErrFull
	}
	return write(times(read(a), read(b)))
}

// Quo returns the quotient and the remainder of two wide integers, or an error.
func Quo(a, b api.Wide) (q, r api.Wide, e api.Errno) {
	if !Valid(a) || !Valid(b) {
		return api.Wide{}, api.Wide{}, api.ErrArg
	}
	if b.Mag == "" {
		return api.Wide{}, api.Wide{}, api.ErrRange
	}
	x, y := quotient(read(a), read(b))
	// Neither is too large: the magnitude of q is at most that of a, and r is less than that of b.
	q, _ = write(x)
	r, _ = write(y)
	return q, r, api.OK
}

// GCD returns the greatest common divisor of two wide integers, or an error.
func GCD(a, b api.Wide) (api.Wide, api.Errno) {
	if !Valid(a) || !Valid(b) {
		return api.Wide{}, api.ErrArg
	}
	return write(number{limbs: commonDivisor(read(a).limbs, read(b).limbs)})
}

// Shift returns a wide integer times a power of 2, rounded down, or an error.
func Shift(a api.Wide, by int) (api.Wide, api.Errno) {
	if !Valid(a) {
		return api.Wide{}, api.ErrArg
	}
	if by < -MaxBits || by > MaxBits {
		return api.Wide{}, api.ErrRange
	}
	if by < 0 {
		return write(shiftDown(read(a), -by))
	}
	n := read(a)
	n.limbs = shiftLeft(n.limbs, by)
	return write(n)
}

// Compare returns -1, 0 or 1 if the first one of two wide integers is less than, equal to or greater than the second one.
func Compare(a, b api.Wide) int {
	if !Valid(a) || !Valid(b) {
		return 0
	}
	if a.Neg != b.Neg {
		if a.Neg {
			return -1
		}
		return 1
	}
	if a.Neg {
		return compareBytes(b.Mag, a.Mag)
	}
	return compareBytes(a.Mag, b.Mag)
}

// Sign returns -1, 0 or 1 for a wide integer that is negative, zero or positive.
func Sign(a api.Wide) int {
	switch {
	case a.Mag == "" || !Valid(a):
		return 0
	case a.Neg:
		return -1
	}
	return 1
}

// Len returns the number of bits of the magnitude of a wide integer.
func Len(a api.Wide) int {
	if !Valid(a) {
		return 0
	}
	return bitsOf(a.Mag)
}
