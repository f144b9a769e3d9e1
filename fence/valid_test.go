package fence_test

import (
	"slices"
	"testing"

	"skylantern/api"
	"skylantern/fence"
)

// P8.1

func TestSimpleExamples(t *testing.T) {
	for i, c := range []struct {
		l    []api.Vec
		want bool
	}{
		{p(0, 0, 2, 0, 0, 2, 2, 2), false},                                 // it crosses itself
		{p(0, 0, 1, 0, 2, 0), false},                                       // it goes back
		{p(0, 0, 1, 0, 2, 0, 0, 2), true},                                  // it goes straight on
		{p(0, 0, 4, 0, 2, 0, 2, 4), false},                                 // it goes back a part
		{p(0, 0, 2, 0, 4, 4, 2, 0, 0, 4), false},                           // it meets a corner again
		{p(0, 0, 4, 0, 4, 4, 2, 0, 0, 4), false},                           // a corner is on an edge
		{p(0, 0, 4, 0, 4, 4, 3, 1, 1, 1, 0, 4), true},                      // it turns both ways
		{p(0, 0, 4, 0, 4, 4, 3, 0, 1, 0, 0, 4), false},                     // an edge is on an edge
		{p(0, 0, 0, 0, 4, 0, 0, 4), false},                                 // a corner is the same as the next one
		{p(0, 0, 4, 0, 0, 4, 0, 0), false},                                 // the last one is the same as the first one
		{[]api.Vec{v(0, 0, 1), v(0, 0, 2), v(4, 0, 0), v(0, 4, 0)}, false}, // they differ only in Z
		{[]api.Vec{v(0, 0, far), v(4, 0, -far), v(0, 4, 5)}, true},
		{p(0, 0, 0, 4, 4, 0), true},
		{p(0, 0, 4, 0), false},
		{p(0, 0), false},
		{nil, false},
		{p(0, 0, 1, 0, 0, 0), false},
		{p(0, 0, 1, 0, 0, 0, 1, 0), false},
		{p(0, 0, 6, 0, 3, 5, 1, 3, 5, 3, 3, -9), false},
		{p(-far, -far, far, far-1, far, far), true},
		{p(-far, -far, 0, 0, far, far), false},
		{p(-far, -far, far, -far, far, far, -far, far), true},
		{p(-far, -far, far, far, far, far-1, 1-far, -far), true},
		{p(-far, -far, far+1, 0, 0, far), false},
		{p(-far, -far-1, far, 0, 0, far), false},
		{[]api.Vec{v(0, 0, far+1), v(4, 0, 0), v(0, 4, 0)}, false},
		{[]api.Vec{v(0, 0, 0), v(4, 0, 0), v(0, 4, -far-1)}, false},
	} {
		if is := fence.Simple(c.l); is != c.want || simple(c.l) != c.want {
			t.Error(i, is, simple(c.l))
		}
	}
}

func TestSimpleForAllShortListsOfASmallGrid(t *testing.T) {
	for many := 1; many <= 5; many++ {
		codes := 1
		for range many {
			codes *= 9
		}
		for code := range codes {
			l := make([]api.Vec, many)
			for i, rest := 0, code; i < many; i, rest = i+1, rest/9 {
				l[i] = v(rest%9%3, rest%9/3, i)
			}
			if is := fence.Simple(l); is != simple(l) {
				t.Fatal(l, is)
			}
		}
	}
}

func TestSimpleForRandomLists(t *testing.T) {
	r, found := source(), 0
	for i := range 60000 {
		l, length := make([]api.Vec, 3+r.Intn(8)), []int{3, 5, 8, 2 * far}[i%4]
		for j := range l {
			l[j] = v(r.Intn(length+1)-length/2, r.Intn(length+1)-length/2, r.Intn(9))
		}
		is := fence.Simple(l)
		if is != simple(l) {
			t.Fatal(l, is)
		}
		if is {
			found++
		}
	}
	if found < 1000 {
		t.Error("only", found)
	}
}

func TestSimpleWithManyCorners(t *testing.T) {
	l := comb(5, 5, 7)
	if len(l) != fence.MaxCorners || !fence.Simple(l) {
		t.Error(len(l))
	}
	if fence.Simple(slices.Insert(l, 63, v(6, 5, 0))) || !fence.Simple(slices.Insert(slices.Clone(l[1:]), 62, v(6, 5, 0))) {
		t.Error("a straight corner more")
	}
	if fence.Simple(make([]api.Vec, 100000)) {
		t.Error("many points")
	}
}

func TestValid(t *testing.T) {
	for i, f := range fences() {
		if !fence.Valid(f) {
			t.Error(i)
		}
	}
	for name, f := range invalid() {
		if fence.Valid(f) || valid(f) {
			t.Error(name)
		}
	}
	f := combs()
	f.Holes = append(f.Holes, p(1, 1, 2, 1, 1, 2))
	if fence.Valid(f) {
		t.Error("too many holes")
	}
	f.Holes = f.Holes[1:]
	if !fence.Valid(f) {
		t.Error("another hole")
	}
	f.Outer = slices.Insert(f.Outer, 63, v(6, 0, 0))
	if fence.Valid(f) {
		t.Error("too many corners")
	}
}

func TestValidForRandomFences(t *testing.T) {
	r, found := source(), 0
	for range 1000 {
		f := randomFence(r, 9)
		if !fence.Valid(f) || !valid(f) {
			t.Fatal(f)
		}
		if len(f.Holes) > 0 {
			// Another one for a hole, which may meet the rest.
			f.Holes[r.Intn(len(f.Holes))] = randomPolygon(r, r.Intn(9), r.Intn(9), 1+r.Intn(3))
		}
		is := fence.Valid(f)
		if is != valid(f) {
			t.Fatal(f, is)
		}
		if is {
			found++
		}
	}
	if found < 40 {
		t.Error("only", found)
	}
}

// All functions refuse fences that are not valid.

func TestFencesThatAreNotValid(t *testing.T) {
	one, none := ratio(1, 1), api.Ratio{}
	for name, f := range invalid() {
		if n, e := fence.Area2(f); n != 0 || e != api.ErrArg {
			t.Error("Area2", name, n, e)
		}
		if is, e := fence.Inside(f, v(1, 1, 1)); is || e != api.ErrArg {
			t.Error("Inside", name, is, e)
		}
		if is, e := fence.InsideAt(f, one, one, one); is || e != api.ErrArg {
			t.Error("InsideAt", name, is, e)
		}
		if is, e := fence.Holds(f, v(1, 1, 1), v(1, 2, 1)); is || e != api.ErrArg {
			t.Error("Holds", name, is, e)
		}
		if d, e := fence.Distance2(f, v(1, 1, 1)); d != none || e != api.ErrArg {
			t.Error("Distance2", name, d, e)
		}
		if l := fence.Edges(f); l == nil || len(edgesOf(f)) > 0 {
			t.Error("Edges", name)
		}
	}
}
