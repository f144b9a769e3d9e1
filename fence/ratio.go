package fence

import (
	"skylantern/api"
	"skylantern/wide"
)

// The functions of this file get valid numbers that are so short that layer 1 has no errors for them.

// product returns the product of two numbers.
func product(a, b api.Wide) api.Wide {
	out, _ := wide.Mul(a, b)
	return out
}

// plus returns the sum of some numbers.
func plus(numbers ...api.Wide) api.Wide {
	var out api.Wide
	for _, n := range numbers {
		out, _ = wide.Add(out, n)
	}
	return out
}

// whole returns an integer as a ratio.
func whole(n int) api.Ratio { return api.Ratio{Num: wide.Of(n), Den: wide.Of(1)} }

// isLess reports whether a ratio is less than another one.
func isLess(a, b api.Ratio) bool {
	order, _ := wide.CompareRatio(a, b)
	return order < 0
}

// isBetween reports whether a ratio is at least low, and at most high.
func isBetween(low int, r api.Ratio, high int) bool {
	return !isLess(r, whole(low)) && !isLess(whole(high), r)
}

// tooLong reports whether a numerator or a denominator of some ratios has too many bits.
func tooLong(ratios ...api.Ratio) bool {
	for _, r := range ratios {
		if wide.Len(r.Num) > MaxRatio || wide.Len(r.Den) > MaxRatio {
			return true
		}
	}
	return false
}

// toEdge returns the squared distance from a point, seen from above, to the edge from a to b, not in lowest terms.
func toEdge(a, b, p api.Vec) api.Ratio {
	along, to := way(a, b), way(a, p)
	length, past := dot(along, along), dot(along, to)
	if past <= 0 {
		return whole(dot(to, to))
	}
	if past >= length {
		return whole(dot(way(b, p), way(b, p)))
	}
	// The height of the parallelogram of both ways is its area divided by its base.
	area := wide.Of(area2(along, to))
	return api.Ratio{Num: product(area, area), Den: wide.Of(length)}
}
