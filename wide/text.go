package wide

import (
	"slices"
	"strings"

	"skylantern/api"
)

const (
	// wordDigits is the greatest number of digits that always fit into a limb, and wordPower is 10 to its power.
	wordDigits = 19
	wordPower  = 10000000000000000000
	// maxDigits is the number of digits of the greatest magnitude, 2^MaxBits - 1.
	maxDigits = 19729
)

// Text returns the decimal text of a wide integer, or an error.
func Text(a api.Wide) (string, api.Errno) {
	if !Valid(a) {
		return "", api.ErrArg
	}
	if a.Mag == "" {
		return "0", api.OK
	}
	digits := lowestDigits(read(a).limbs)
	if a.Neg {
		digits = append(digits, '-')
	}
	slices.Reverse(digits)
	return string(digits), api.OK
}

// lowestDigits returns the decimal digits of a magnitude, the lowest one first, and uses it up.
func lowestDigits(limbs []uint64) []byte {
	var digits []byte
	for len(limbs) > 0 {
		chunk := divideWord(limbs, limbs, wordPower)
		limbs = trim(limbs)
		for i := 0; i < wordDigits && (chunk > 0 || len(limbs) > 0); i++ {
			digits = append(digits, '0'+byte(chunk%10))
			chunk /= 10
		}
	}
	return digits
}

// Parse returns the wide integer with a decimal text, or an error.
func Parse(s string) (api.Wide, api.Errno) {
	if !isDecimal(s) {
		return api.Wide{}, api.ErrFormat
	}
	digits, neg := strings.CutPrefix(s, "-")
	if len(digits) > maxDigits {
		return api.Wide{}, api.ErrFull
	}
	return write(number{neg: neg, limbs: fromDigits(digits)})
}

// isDecimal reports whether a string is a decimal text.
func isDecimal(s string) bool {
	if s == "0" {
		return true
	}
	digits := strings.TrimPrefix(s, "-")
	if digits == "" || digits[0] == '0' {
		return false
	}
	for i := range len(digits) {
		if digits[i] < '0' || digits[i] > '9' {
			return false
		}
	}
	return true
}

// fromDigits returns the magnitude with some decimal digits.
func fromDigits(digits string) []uint64 {
	var limbs []uint64
	for digits != "" {
		// The first chunk has the digits that are left over; all others are full.
		size := (len(digits)-1)%wordDigits + 1
		power, chunk := uint64(1), uint64(0)
		for i := range size {
			power, chunk = 10*power, 10*chunk+uint64(digits[i]-'0')
		}
		digits = digits[size:]
		for i, x := range limbs {
			chunk, limbs[i] = mulAdd(x, power, chunk)
		}
		if chunk > 0 {
			limbs = append(limbs, chunk)
		}
	}
	return limbs
}
