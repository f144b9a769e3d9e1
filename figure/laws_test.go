package figure_test

import (
	"slices"
	"testing"

	"skylantern/api"
	"skylantern/figure"
	"skylantern/vector"
)

// P9.5

func TestParseInvertsText(t *testing.T) {
	for _, f := range samples() {
		text, e := figure.Text(f)
		if e != api.OK {
			t.Fatal(f, e)
		}
		isParsed(t, text, f, 0, api.OK)
		g, _, _ := figure.Parse(text)
		if again, e := figure.Text(g); again != text || e != api.OK || !figure.Equal(f, g) {
			t.Errorf("%q: %q %v", text, again, e)
		}
	}
}

func TestPointsOfAFigureThatIsMoved(t *testing.T) {
	r, found := source(), 0
	for _, f := range samples() {
		for range 3 {
			by := randomPoint(r)
			g, e := figure.Move(f, by)
			if e != api.OK {
				continue
			}
			before, e := figure.Points(f)
			after, d := figure.Points(g)
			if e != api.OK || d != api.OK {
				continue
			}
			for i, p := range before {
				before[i] = v(p.X+by.X, p.Y+by.Y, p.Z+by.Z)
			}
			if !slices.Equal(before, after) {
				t.Error(f, by)
			}
			found++
		}
	}
	if found < 200 {
		t.Error("only", found)
	}
}

func TestPointsOfTwoFigures(t *testing.T) {
	r, found := source(), 0
	for range 300 {
		f, g := randomFigure(r), randomFigure(r)
		a, d := figure.Points(f)
		b, e := figure.Points(g)
		both := slices.Concat(a, b)
		slices.SortFunc(both, vector.Compare)
		both = slices.Compact(both)
		if d != api.OK || e != api.OK || len(both) > figure.MaxPoints {
			continue
		}
		isPoints(t, slices.Concat(f, g), both, api.OK)
		isPoints(t, slices.Concat(g, f), both, api.OK)
		found++
	}
	if found < 50 {
		t.Error("only", found)
	}
}

func TestRingsAndSpheresFromTheOppositeSide(t *testing.T) {
	at := v(5, -6, 7)
	for radius := 1; radius <= 17; radius++ {
		for _, s := range []api.Shape{ring(api.PlaneXY, radius, 3, at), ring(api.PlaneXZ, radius, 1, at), ring(api.PlaneYZ, radius, 10000, at), sphere(radius, 2, at)} {
			l, e := figure.Points(api.Figure{s})
			if e != api.OK || len(l) == 0 {
				t.Fatal(s, e)
			}
			for i, p := range l {
				if l[len(l)-1-i] != v(2*at.X-p.X, 2*at.Y-p.Y, 2*at.Z-p.Z) {
					t.Error(s, p)
				}
			}
		}
	}
}

func TestPointsAreInOrder(t *testing.T) {
	for _, f := range samples() {
		l, _ := figure.Points(f)
		for i, p := range l {
			if !vector.Point(p) || i > 0 && vector.Compare(l[i-1], p) >= 0 {
				t.Error(f, p)
			}
		}
	}
}

// The rules of all layers

// spoil changes all corners of a figure, and what lies behind them and its shapes.
func spoil(f api.Figure) {
	for i := range f[:cap(f)] {
		s := f[:cap(f)][i]
		for j := range s.Corners[:cap(s.Corners)] {
			s.Corners[:cap(s.Corners)][j] = v(77, 88, 99)
		}
	}
	for i := range f {
		f[i].Kind = 99
	}
}

func TestArgumentsAreNotChangedAndNotKept(t *testing.T) {
	by := v(-1, 2, -3)
	for _, f := range append(samples(), notFigures()[:20]...) {
		f = clone(f)
		before := clone(f)
		moved, _ := figure.Move(f, by)
		points, _ := figure.Points(f)
		text, _ := figure.Text(f)
		parsed, _, _ := figure.Parse(text)
		figure.Valid(f)
		figure.Equal(f, before)
		if !same(f, before) {
			t.Fatal("changed", f, before)
		}
		wantMoved, wantPoints, wantParsed := clone(moved), slices.Clone(points), clone(parsed)
		spoil(f)
		if !same(moved, wantMoved) || !same(parsed, wantParsed) || !slices.Equal(points, wantPoints) {
			t.Fatal("kept", before)
		}
		f = clone(before)
		moved, _ = figure.Move(f, by)
		points, _ = figure.Points(f)
		spoil(moved)
		for i := range points[:cap(points)] {
			points[:cap(points)][i] = v(77, 88, 99)
		}
		if !same(f, before) {
			t.Fatal("shared", before)
		}
		again, _ := figure.Move(f, by)
		l, _ := figure.Points(f)
		if !same(again, wantMoved) || !slices.Equal(l, wantPoints) {
			t.Fatal("other results", before)
		}
	}
}

func TestListsOfAResultShareNothing(t *testing.T) {
	for _, f := range samples() {
		text, _ := figure.Text(f)
		parsed, _, _ := figure.Parse(text)
		moved, _ := figure.Move(f, api.Vec{})
		for _, g := range []api.Figure{parsed, moved} {
			for i, s := range g {
				want := clone(g)
				for j := range s.Corners[:cap(s.Corners)] {
					s.Corners[:cap(s.Corners)][j] = v(1, 1, 77)
				}
				want[i].Corners = slices.Clone(s.Corners)
				if !same(g, want) {
					t.Fatal(text, i)
				}
			}
		}
	}
}

func TestEqualCallsHaveEqualResults(t *testing.T) {
	for _, f := range samples() {
		want, e := figure.Points(f)
		for range 3 {
			isPoints(t, f, want, e)
		}
	}
}
