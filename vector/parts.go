package vector

import "skylantern/api"

// The functions of this file do not check their vectors: the parts may be those of differences, which are as great as twice MaxPart. Their products and the sums of these fit into an int by far.

// within reports whether all of some numbers are from -most to most.
func within(most int, numbers ...int) bool {
	for _, n := range numbers {
		if n < -most || n > most {
			return false
		}
	}
	return true
}

// allValid reports whether all of some vectors are valid.
func allValid(l ...api.Vec) bool {
	for _, v := range l {
		if !Valid(v) {
			return false
		}
	}
	return true
}

// checked returns a vector if it is valid, or ErrRange.
func checked(v api.Vec) (api.Vec, api.Errno) {
	if !Valid(v) {
		return api.Vec{}, api.ErrRange
	}
	return v, api.OK
}

// combine returns the vector of what a function makes of the parts of two vectors.
func combine(a, b api.Vec, with func(a, b int) int) api.Vec {
	return api.Vec{X: with(a.X, b.X), Y: with(a.Y, b.Y), Z: with(a.Z, b.Z)}
}

// difference returns the way from b to a.
func difference(a, b api.Vec) api.Vec {
	return combine(a, b, func(a, b int) int { return a - b })
}

// products returns the products of the parts of two vectors.
func products(a, b api.Vec) api.Vec {
	return combine(a, b, func(a, b int) int { return a * b })
}

// dot returns the scalar product of two vectors.
func dot(a, b api.Vec) int {
	p := products(a, b)
	return p.X + p.Y + p.Z
}

// cross returns the vector product of two vectors.
func cross(a, b api.Vec) api.Vec {
	return api.Vec{X: a.Y*b.Z - a.Z*b.Y, Y: a.Z*b.X - a.X*b.Z, Z: a.X*b.Y - a.Y*b.X}
}

// nearest returns the integer nearest to num / den, the greater one of two; den is positive.
func nearest(num, den int) int {
	// A division rounds towards 0, so what lies below it is one too great.
	out, rest := (2*num+den)/(2*den), (2*num+den)%(2*den)
	if rest < 0 {
		out--
	}
	return out
}
