package figure_test

import (
	"math"
	"math/rand"
	"slices"
	"strings"
	"testing"

	"skylantern/api"
	"skylantern/figure"
	"skylantern/vector"
)

// P1: every function returns, for all arguments, and returns an error just if the chapter names one.

// anyInt returns any number; most are valid as a part with a limit.
func anyInt(r *rand.Rand, limit int) int {
	switch r.Intn(40) {
	case 0:
		return int(r.Uint64())
	case 1:
		return []int{math.MinInt, math.MaxInt, limit, -limit}[r.Intn(4)]
	case 2:
		return []int{0, limit, limit + 1, -limit - 1, -1}[r.Intn(5)]
	}
	return 1 + r.Intn(min(limit, 9))
}

// anyVec returns a vector that need not be valid.
func anyVec(r *rand.Rand) api.Vec {
	part := func() int {
		switch r.Intn(120) {
		case 0:
			return int(r.Uint64())
		case 1:
			return []int{far, -far, vector.MaxPart, -vector.MaxPart}[r.Intn(4)] + r.Intn(3) - 1
		}
		return r.Intn(7) - 3
	}
	return v(part(), part(), part())
}

// anyFigure returns a figure that need not be valid; many are.
func anyFigure(r *rand.Rand) api.Figure {
	var f api.Figure
	for range r.Intn(4) {
		s := randomShape(r)
		for i := range s.Corners {
			s.Corners[i] = anyVec(r)
		}
		switch r.Intn(20) {
		case 0:
			s.Many = anyInt(r, figure.MaxMany)
		case 1:
			s.Radius, s.Step = anyInt(r, figure.MaxRadius), anyInt(r, figure.MaxStep)
		case 2:
			s.Kind, s.Plane = api.ShapeKind(anyInt(r, 5)), api.Plane(anyInt(r, 2))
		case 3:
			s.Corners = s.Corners[:r.Intn(len(s.Corners)+1)]
		}
		f = append(f, s)
	}
	if r.Intn(200) == 0 {
		f = slices.Repeat(f, 30)
	}
	return f
}

// validFigure reports whether a figure is valid, kind by kind.
func validFigure(f api.Figure) bool {
	for _, s := range f {
		corners, rest := len(s.Corners), s
		rest.Corners, rest.Kind = nil, 0
		many, round := s.Many >= 1 && s.Many <= 500, s.Radius >= 1 && s.Radius <= 50 && s.Step >= 1 && s.Step <= 10000
		right := false
		switch s.Kind {
		case api.ShapeDots:
			right = corners >= 1
		case api.ShapeLine, api.ShapeLoop:
			right, rest.Many = corners >= int(s.Kind) && many, 0
		case api.ShapeRing:
			right = corners == 1 && round && s.Plane >= 0 && s.Plane <= 2
			rest.Radius, rest.Step, rest.Plane = 0, 0, 0
		case api.ShapeSphere:
			right, rest.Radius, rest.Step = corners == 1 && round, 0, 0
		}
		if !right || corners > 200 || !same(api.Figure{rest}, api.Figure{{}}) {
			return false
		}
		for _, c := range s.Corners {
			if max(c.X, c.Y, c.Z) > far || min(c.X, c.Y, c.Z) < -far {
				return false
			}
		}
	}
	return len(f) <= 50
}

func TestNoPanic(t *testing.T) {
	r, found := source(), 0
	for range 20000 {
		f, by := anyFigure(r), anyVec(r)
		ok := validFigure(f)
		if figure.Valid(f) != ok || !figure.Equal(f, f) {
			t.Fatal(f)
		}
		text, e := figure.Text(f)
		if (e == api.OK) != ok || e != api.OK && (e != api.ErrArg || text != "") || strings.Count(text, "\n") != len(f) && ok {
			t.Fatal("Text", f, text, e)
		}
		want, wantErr := api.Figure(nil), api.ErrArg
		if ok && max(by.X, by.Y, by.Z) <= vector.MaxPart && min(by.X, by.Y, by.Z) >= -vector.MaxPart {
			moved, in := shifted(f, by)
			want, wantErr = moved, api.OK
			if !in {
				wantErr = api.ErrRange
			}
		}
		isMoved(t, f, by, want, wantErr)
		l, e := figure.Points(f)
		if (e == api.ErrArg) == ok || e != api.OK && l != nil || len(l) > figure.MaxPoints {
			t.Fatal("Points", f, l, e)
		}
		if ok {
			found++
		}
	}
	if found < 5000 || found > 18000 {
		t.Error(found)
	}
}

func TestParseOfAnyText(t *testing.T) {
	r := source()
	words := []string{"dots", "line", "loop", "ring", "sphere", "xy", "xz", "yz", " ", " ", " ", " ", "\n", "\n", "0", "1", "-1", "20", " 1 2 3", "\xff", "é", "1048576"}
	for range 100000 {
		var b strings.Builder
		for range r.Intn(12) {
			b.WriteString(words[r.Intn(len(words))])
		}
		text := b.String()
		want, wantErr := firstBad(text)
		if f, n, e := figure.Parse(text); n != want || e != wantErr || e != api.OK && f != nil {
			t.Fatalf("%q: %v %v %v, not %v %v", text, f, n, e, want, wantErr)
		}
	}
}
