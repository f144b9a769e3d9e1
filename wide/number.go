package wide

import (
	"cmp"
	"math/bits"

	"skylantern/api"
)

// wordBytes is the number of bytes of a limb.
const wordBytes = 8

// number is an integer of any size. The limbs are the digits of its magnitude to the base 2^64, the lowest one first; the last one is not 0. Zero has none, and its sign does not count.
//
// Limbs are never changed once they are part of a number, so numbers may share them.
type number struct {
	neg   bool
	limbs []uint64
}

// toWord returns the number with at most 8 bytes, the highest one first.
func toWord(mag string) uint64 {
	word := uint64(0)
	for i := range len(mag) {
		word = word<<8 | uint64(mag[i])
	}
	return word
}

// fromWord returns a number of at most one limb as a wide integer; it is not negative if it is 0.
func fromWord(neg bool, word uint64) api.Wide {
	var mag [wordBytes]byte
	first := wordBytes
	for ; word > 0; word >>= 8 {
		first--
		mag[first] = byte(word)
	}
	return api.Wide{Neg: neg, Mag: string(mag[first:])}
}

// bitsOf returns the number of bits of a magnitude.
func bitsOf(mag string) int {
	if mag == "" {
		return 0
	}
	return 8*(len(mag)-1) + bits.Len8(mag[0])
}

// compareBytes compares two magnitudes: without zeros before them, the longer one is greater.
func compareBytes(a, b string) int {
	if len(a) != len(b) {
		return cmp.Compare(len(a), len(b))
	}
	return cmp.Compare(a, b)
}

// read returns a valid wide integer as a number.
func read(a api.Wide) number {
	limbs := make([]uint64, 0, (len(a.Mag)+wordBytes-1)/wordBytes)
	for end := len(a.Mag); end > 0; end -= wordBytes {
		limbs = append(limbs, toWord(a.Mag[max(end-wordBytes, 0):end]))
	}
	return number{neg: a.Neg, limbs: limbs}
}

// write returns a number as a wide integer, or ErrFull.
func write(n number) (api.Wide, api.Errno) {
	count := len(n.limbs)
	if count == 0 {
		return api.Wide{}, api.OK
	}
	if count == 1 {
		return fromWord(n.neg, n.limbs[0]), api.OK
	}
	size := 64*(count-1) + bits.Len64(n.limbs[count-1])
	if size > MaxBits {
		return api.Wide{}, api.ErrFull
	}
	mag := make([]byte, (size+7)/8)
	for i := range mag {
		limb := n.limbs[i/wordBytes]
		mag[len(mag)-1-i] = byte(limb >> (8 * (i % wordBytes)))
	}
	return api.Wide{Neg: n.neg, Mag: string(mag)}, api.OK
}

// negative returns the negative of a number.
func negative(a number) number { return number{neg: !a.neg, limbs: a.limbs} }

// plus returns the sum of two numbers.
func plus(a, b number) number {
	if a.neg == b.neg {
		return number{neg: a.neg, limbs: addLimbs(a.limbs, b.limbs)}
	}
	if compareLimbs(a.limbs, b.limbs) < 0 {
		a, b = b, a
	}
	return number{neg: a.neg, limbs: subLimbs(a.limbs, b.limbs)}
}

// times returns the product of two numbers.
func times(a, b number) number {
	return number{neg: a.neg != b.neg, limbs: mulLimbs(a.limbs, b.limbs)}
}

// quotient returns the quotient and the remainder of the Euclidean division by a number that is not 0.
func quotient(a, b number) (q, r number) {
	whole, rest := divideLimbs(a.limbs, b.limbs)
	if a.neg && len(rest) > 0 {
		// The remainder would be negative: one more time b makes it positive.
		whole = addLimbs(whole, []uint64{1})
		rest = subLimbs(b.limbs, rest)
	}
	return number{neg: a.neg != b.neg, limbs: whole}, number{limbs: rest}
}

// shiftDown returns a number divided by 2 to the power of a number, rounded down.
func shiftDown(a number, by int) number {
	if !a.neg {
		return number{limbs: shiftRight(a.limbs, by)}
	}
	// Dropping bits of a magnitude rounds towards 0. Of a negative n, -1 - n is not negative, and so rounds the right way.
	one := []uint64{1}
	rest := shiftRight(subLimbs(a.limbs, one), by)
	return number{neg: true, limbs: addLimbs(rest, one)}
}
