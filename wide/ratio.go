package wide

import (
	"cmp"

	"skylantern/api"
)

// ValidRatio reports whether a ratio is valid.
func ValidRatio(r api.Ratio) bool {
	return Valid(r.Num) && Sign(r.Den) > 0
}

// Ratio returns a numerator over a denominator as a ratio in lowest terms, or an error.
func Ratio(num, den api.Wide) (api.Ratio, api.Errno) {
	if !Valid(num) || !Valid(den) {
		return api.Ratio{}, api.ErrArg
	}
	if den.Mag == "" {
		return api.Ratio{}, api.ErrRange
	}
	return lowest(read(num), read(den))
}

// RatioOf returns the same for ints.
func RatioOf(num, den int) (api.Ratio, api.Errno) {
	return Ratio(Of(num), Of(den))
}

// CompareRatio returns -1, 0 or 1 if the first one of two ratios is less than, equal to or greater than the second one, or an error.
func CompareRatio(a, b api.Ratio) (int, api.Errno) {
	if !ValidRatio(a) || !ValidRatio(b) {
		return 0, api.ErrArg
	}
	if s, t := Sign(a.Num), Sign(b.Num); s != t {
		return cmp.Compare(s, t), api.OK
	}
	x := mulLimbs(read(a.Num).limbs, read(b.Den).limbs)
	y := mulLimbs(read(b.Num).limbs, read(a.Den).limbs)
	if a.Num.Neg {
		return compareLimbs(y, x), api.OK
	}
	return compareLimbs(x, y), api.OK
}

// AddRatio returns the sum of two ratios in lowest terms, or an error.
func AddRatio(a, b api.Ratio) (api.Ratio, api.Errno) {
	return combine(a, b, func(a, b fraction) number {
		return plus(times(a.num, b.den), times(b.num, a.den))
	})
}

// SubRatio returns the difference of two ratios in lowest terms, or an error.
func SubRatio(a, b api.Ratio) (api.Ratio, api.Errno) {
	return combine(a, b, func(a, b fraction) number {
		return plus(times(a.num, b.den), negative(times(b.num, a.den)))
	})
}

// MulRatio returns the product of two ratios in lowest terms, or an error.
func MulRatio(a, b api.Ratio) (api.Ratio, api.Errno) {
	return combine(a, b, func(a, b fraction) number { return times(a.num, b.num) })
}

// Floor returns the greatest integer that is at most a ratio, or an error.
func Floor(r api.Ratio) (api.Wide, api.Errno) {
	if !ValidRatio(r) {
		return api.Wide{}, api.ErrArg
	}
	q, _, e := Quo(r.Num, r.Den)
	return q, e
}

// fraction is a ratio whose parts may have any size.
type fraction struct{ num, den number }

// combine returns the ratio of what top gives and the product of both denominators in lowest terms, or an error. Only the result must not be too large: so the way to it goes through numbers of any size.
func combine(a, b api.Ratio, top func(a, b fraction) number) (api.Ratio, api.Errno) {
	if !ValidRatio(a) || !ValidRatio(b) {
		return api.Ratio{}, api.ErrArg
	}
	x := fraction{read(a.Num), read(a.Den)}
	y := fraction{read(b.Num), read(b.Den)}
	return lowest(top(x, y), times(x.den, y.den))
}

// lowest returns the ratio of a number and one that is not 0 in lowest terms, or ErrFull.
func lowest(num, den number) (api.Ratio, api.Errno) {
	common := commonDivisor(num.limbs, den.limbs)
	above, _ := divideLimbs(num.limbs, common)
	below, _ := divideLimbs(den.limbs, common)
	n, e := write(number{neg: num.neg != den.neg, limbs: above})
	if e != api.OK {
		return api.Ratio{}, e
	}
	d, e := write(number{limbs: below})
	if e != api.OK {
		return api.Ratio{}, e
	}
	return api.Ratio{Num: n, Den: d}, api.OK
}
