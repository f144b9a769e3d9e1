package hull_test

import (
	"slices"
	"testing"

	"skylantern/api"
	"skylantern/hull"
)

// P7.1

func TestHullExamples(t *testing.T) {
	for _, c := range []struct{ l, want []api.Vec }{
		{p(0, 0, 2, 0, 1, 1, 2, 2, 0, 2, 1, 0), square},
		{p(3, 3, 1, 1, 2, 2), line},
		{p(5, 5, 5, 5), dot},
		{p(7, -7), p(7, -7)},
		{p(2, 1, 2, 9, 2, 4, 2, 1), p(2, 1, 2, 9)},
		{p(9, 2, 1, 2, 4, 2, 9, 2), p(1, 2, 9, 2)},
		{p(0, 2, 0, 1, 0, 0, 1, 0, 2, 0, 2, 1, 2, 2, 1, 2), square},
		{p(-1, 0, 0, -1, 1, 0, 0, 1, 0, 0), p(-1, 0, 0, -1, 1, 0, 0, 1)},
		{p(far, far, -far, far, far, -far, 0, 0, -far, -far, far, 0), greatest},
		{p(far, far, far-1, far-1, -far, -far), p(-far, -far, far, far)},
		{p(far, far, far-1, far-2, -far, -far), p(-far, -far, far-1, far-2, far, far)},
		{p(far, far, far-2, far-1, -far, -far), p(-far, -far, far, far, far-2, far-1)},
	} {
		h, e := hull.Hull(c.l)
		same(t, c.l, h, e, c.want, api.OK)
	}
}

func TestHull(t *testing.T) {
	for _, l := range samples() {
		h, e := hull.Hull(l)
		same(t, l, h, e, cornersOf(l), api.OK)
	}
}

func TestHullOfAllPartsOfASmallGrid(t *testing.T) {
	for set := 1; set < 1<<9; set++ {
		var l []api.Vec
		for i := range 9 {
			if set>>i&1 == 1 {
				l = append(l, api.Vec{X: i % 3, Y: i / 3, Z: i})
			}
		}
		h, e := hull.Hull(l)
		same(t, l, h, e, cornersOf(l), api.OK)
	}
}

func TestHullLooksAtTheWholeListInAnyOrder(t *testing.T) {
	r := source()
	want := roundHull(500)
	l := slices.Clone(want)
	for i, q := range want {
		other := want[(i+100)%len(want)]
		l = append(l, q, want[0], api.Vec{X: (q.X + other.X) / 2, Y: (q.Y + other.Y) / 2})
	}
	for range 20 {
		r.Shuffle(len(l), func(i, j int) { l[i], l[j] = l[j], l[i] })
		for i := range l {
			l[i].Z = r.Intn(2*far+1) - far
		}
		h, e := hull.Hull(l)
		same(t, "500 corners", h, e, want, api.OK)
	}
}

func TestHullOfManyPoints(t *testing.T) {
	most := roundHull(hull.MaxPoints)
	h, e := hull.Hull(most)
	same(t, "all corners", h, e, most, api.OK)
	equal := slices.Repeat(p(4, 4), hull.MaxPoints)
	h, e = hull.Hull(equal)
	same(t, "all the same", h, e, p(4, 4), api.OK)
	for _, l := range [][]api.Vec{append(most, most[0]), append(equal, equal[0]), make([]api.Vec, 3*hull.MaxPoints)} {
		h, e = hull.Hull(l)
		same(t, len(l), h, e, nil, api.ErrArg)
	}
}

func TestErrorsOfHull(t *testing.T) {
	for _, l := range [][]api.Vec{nil, {}} {
		h, e := hull.Hull(l)
		same(t, l, h, e, nil, api.ErrNone)
	}
	for _, bad := range notPoints() {
		for i := range 4 {
			l := slices.Insert(p(1, 1, 2, 2, 3, -3), i, bad)
			h, e := hull.Hull(l)
			same(t, l, h, e, nil, api.ErrArg)
		}
		h, e := hull.Hull([]api.Vec{bad})
		same(t, bad, h, e, nil, api.ErrArg)
	}
}

func TestValid(t *testing.T) {
	for _, h := range [][]api.Vec{square, line, dot, triangle, greatest, p(0, 0), p(0, 0, 0, 1), p(0, 0, 1, -9), p(-far, far), p(-far, -far, far, far), roundHull(500), roundHull(hull.MaxPoints), roundHull(hull.MaxPoints)[:hull.MaxPoints-1]} {
		if !hull.Valid(h) {
			t.Error(h)
		}
	}
	for _, h := range notHulls() {
		if hull.Valid(h) {
			t.Error(len(h), h)
		}
	}
}

func TestValidForAllShortListsOfASmallGrid(t *testing.T) {
	for many := 1; many <= 5; many++ {
		codes := 1
		for range many {
			codes *= 9
		}
		for code := range codes {
			l := make([]api.Vec, many)
			for i, rest := 0, code; i < many; i, rest = i+1, rest/9 {
				l[i] = api.Vec{X: rest % 9 % 3, Y: rest % 9 / 3}
			}
			if hull.Valid(l) != slices.Equal(l, cornersOf(l)) {
				t.Fatal(l)
			}
		}
	}
}

func TestValidForStars(t *testing.T) {
	for many := 5; many <= 41; many += 2 {
		round := roundHull(many + 1)[:many]
		for step := 1; step < many; step++ {
			if gcd(step, many) > 1 {
				continue
			}
			star := make([]api.Vec, many)
			for i := range star {
				star[i] = round[i*step%many]
			}
			if hull.Valid(star) != (step == 1) {
				t.Error(many, step)
			}
		}
	}
}

// P7.6

func TestHullOfAHullIsTheHull(t *testing.T) {
	for _, l := range samples() {
		h, _ := hull.Hull(l)
		again, e := hull.Hull(h)
		same(t, l, again, e, h, api.OK)
		if !hull.Valid(h) {
			t.Error(l, h)
		}
	}
}

func TestEachCornerIsOneOfThePoints(t *testing.T) {
	for _, l := range samples() {
		h, _ := hull.Hull(l)
		for _, c := range h {
			if c.Z != 0 || !slices.ContainsFunc(l, func(q api.Vec) bool { return q.X == c.X && q.Y == c.Y }) {
				t.Error(l, c)
			}
		}
	}
}

// The rules of all layers

func TestArgumentsAreNotChangedAndNotKept(t *testing.T) {
	for _, l := range samples() {
		before := slices.Clone(l)
		h, _ := hull.Hull(l)
		kept := slices.Clone(h)
		hull.Valid(l)
		m, _ := hull.Merge(h, h)
		if !slices.Equal(l, before) || !slices.Equal(h, kept) {
			t.Fatal("changed", l, before, h)
		}
		for i := range l {
			l[i] = api.Vec{X: 1000 + i}
		}
		for i := range m {
			m[i] = api.Vec{X: 2000 + i}
		}
		if !slices.Equal(h, kept) {
			t.Fatal("shared", before, h, kept)
		}
	}
}
