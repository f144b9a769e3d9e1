package figure

import (
	"strconv"
	"strings"

	"skylantern/api"
)

// maxWords is the number of words of the longest text of a shape: a kind, Many, and the parts of all corners.
const maxWords = 2 + 3*MaxCorners

// planeWords returns the words of the planes.
func planeWords() [3]string {
	return [...]string{api.PlaneXY: "xy", api.PlaneXZ: "xz", api.PlaneYZ: "yz"}
}

// line returns the text of a shape that is valid.
func line(s api.Shape) string {
	r := ruleOf(s.Kind)
	words := []string{r.word}
	if r.many > 0 {
		words = append(words, strconv.Itoa(s.Many))
	}
	if r.plane > 0 {
		words = append(words, planeWords()[s.Plane])
	}
	if r.radius > 0 {
		words = append(words, strconv.Itoa(s.Radius), strconv.Itoa(s.Step))
	}
	for _, c := range s.Corners {
		words = append(words, strconv.Itoa(c.X), strconv.Itoa(c.Y), strconv.Itoa(c.Z))
	}
	return strings.Join(words, " ")
}

// reader takes the words of a line, one after the other. What a word or a missing one cannot be is read as something else, so that the line is not the text of what is read.
type reader struct{ words []string }

// word returns the next word.
func (r *reader) word() string {
	if len(r.words) == 0 {
		return ""
	}
	out := r.words[0]
	r.words = r.words[1:]
	return out
}

// number returns the number of the next word.
func (r *reader) number() int {
	n, _ := strconv.Atoi(r.word())
	return n
}

// plane returns the plane of the next word.
func (r *reader) plane() api.Plane {
	word := r.word()
	for i, w := range planeWords() {
		if w == word {
			return api.Plane(i)
		}
	}
	return api.PlaneXY
}

// kind returns the kind of the next word, or 0.
func (r *reader) kind() api.ShapeKind {
	word := r.word()
	for kind := api.ShapeDots; kind <= api.ShapeSphere; kind++ {
		if ruleOf(kind).word == word {
			return kind
		}
	}
	return 0
}

// shapeOf returns the shape with a text, or false if there is none.
func shapeOf(text string) (api.Shape, bool) {
	// Words beyond those of the longest text stay together as one that is no number, so that a long line needs little memory.
	r := reader{strings.SplitN(text, " ", maxWords)}
	s := api.Shape{Kind: r.kind()}
	has := ruleOf(s.Kind)
	if has.many > 0 {
		s.Many = r.number()
	}
	if has.plane > 0 {
		s.Plane = r.plane()
	}
	if has.radius > 0 {
		s.Radius = r.number()
		s.Step = r.number()
	}
	for len(r.words) > 0 {
		x, y, z := r.number(), r.number(), r.number()
		s.Corners = append(s.Corners, api.Vec{X: x, Y: y, Z: z})
	}
	return s, validShape(s) && line(s) == text
}
