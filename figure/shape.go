package figure

import (
	"slices"

	"skylantern/api"
	"skylantern/vector"
)

// rule says what the shapes of a kind consist of: their word, the least and the greatest number of corners, and the greatest values of the other parts, which are 0 for those that the shapes do not have.
type rule struct {
	word               string
	least, most        int
	many, radius, step int
	plane              api.Plane
}

// ruleOf returns the rule of a kind; no number of corners is allowed for what is no kind.
func ruleOf(kind api.ShapeKind) rule {
	switch kind {
	case api.ShapeDots:
		return rule{word: "dots", least: 1, most: MaxCorners}
	case api.ShapeLine:
		return rule{word: "line", least: 2, most: MaxCorners, many: MaxMany}
	case api.ShapeLoop:
		return rule{word: "loop", least: 3, most: MaxCorners, many: MaxMany}
	case api.ShapeRing:
		return rule{word: "ring", least: 1, most: 1, radius: MaxRadius, step: MaxStep, plane: api.PlaneYZ}
	case api.ShapeSphere:
		return rule{word: "sphere", least: 1, most: 1, radius: MaxRadius, step: MaxStep}
	}
	return rule{least: 1, most: 0}
}

// validShape reports whether a shape is valid.
func validShape(s api.Shape) bool {
	r := ruleOf(s.Kind)
	return len(s.Corners) >= r.least && len(s.Corners) <= r.most && allPoints(s.Corners) &&
		fits(s.Many, r.many) && fits(s.Radius, r.radius) && fits(s.Step, r.step) &&
		s.Plane >= api.PlaneXY && s.Plane <= r.plane
}

// fits reports whether a part is from 1 to its greatest value, or 0 if that is its greatest value.
func fits(part, most int) bool { return part >= min(1, most) && part <= most }

// allPoints reports whether all of some vectors are points.
func allPoints(l []api.Vec) bool {
	for _, p := range l {
		if !vector.Point(p) {
			return false
		}
	}
	return true
}

// sameShape reports whether two shapes have equal parts.
func sameShape(a, b api.Shape) bool {
	return a.Kind == b.Kind && slices.Equal(a.Corners, b.Corners) && a.Many == b.Many && a.Radius == b.Radius && a.Step == b.Step && a.Plane == b.Plane
}

// moved returns a point that is moved by a vector that is valid, and whether that is a point, too.
func moved(p, by api.Vec) (api.Vec, bool) {
	out, e := vector.Add(p, by)
	return out, e == api.OK && vector.Point(out)
}

// movedAll returns points that are moved by a vector that is valid, and whether these are points, too.
func movedAll(l []api.Vec, by api.Vec) ([]api.Vec, bool) {
	out := make([]api.Vec, len(l))
	for i, p := range l {
		to, ok := moved(p, by)
		if !ok {
			return nil, false
		}
		out[i] = to
	}
	return out, true
}
