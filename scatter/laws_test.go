package scatter_test

import (
	"math"
	"slices"
	"testing"

	"skylantern/api"
	"skylantern/scatter"
)

// P10.4

// picks returns some points that are picked of a set.
func picks(t *testing.T, l []api.Vec, many int) []api.Vec {
	t.Helper()
	out, e := scatter.Pick(l, many)
	if e != api.OK || len(out) != many {
		t.Fatal(l, many, out, e)
	}
	return out
}

func TestFewerPointsAreTheFirstOfMore(t *testing.T) {
	for _, l := range append(samples(), plate(500)) {
		all := picks(t, l, len(l))
		if !slices.Equal(set(all), l) {
			t.Error(l, all)
		}
		for many := range all {
			if fewer := picks(t, l, many); !slices.Equal(fewer, all[:many]) {
				t.Error(l, many, fewer)
			}
		}
	}
}

func TestPickedPointsAreFarFromEachOther(t *testing.T) {
	seen := 0
	for _, l := range append(samples(), plate(300)) {
		for many := 1; many <= len(l); many++ {
			chosen := picks(t, l, many)
			far, e := scatter.Cover(l, chosen)
			if (far == 0) != (many == len(l)) || e != api.OK {
				t.Error(l, many, far, e)
			}
			if many < 2 || many == len(l) {
				continue
			}
			if near, e := scatter.Spread(set(chosen)); near < far || e != api.OK {
				t.Error(l, many, near, far, e)
			}
			seen++
		}
	}
	if seen < 3000 {
		t.Error("only", seen)
	}
}

// leastCovers returns the least cover of a set by each number of its points, of all choices; for 0 points it has no meaning.
func leastCovers(t *testing.T, l []api.Vec) []int {
	t.Helper()
	out := slices.Repeat([]int{math.MaxInt}, len(l)+1)
	for choice := 1; choice < 1<<len(l); choice++ {
		var chosen []api.Vec
		for i, a := range l {
			if choice>>i&1 == 1 {
				chosen = append(chosen, a)
			}
		}
		square, e := scatter.Cover(l, chosen)
		if e != api.OK {
			t.Fatal(l, chosen, e)
		}
		out[len(chosen)] = min(out[len(chosen)], square)
	}
	return out
}

func TestNoChoiceCoversMuchBetter(t *testing.T) {
	seen := 0
	for _, l := range samples() {
		if len(l) > 10 {
			continue
		}
		least := leastCovers(t, l)
		for many := 1; many <= len(l); many++ {
			if square, e := scatter.Cover(l, picks(t, l, many)); e != api.OK || 4*least[many] < square || square < least[many] {
				t.Error(l, many, square, least[many], e)
			}
			seen++
		}
	}
	if seen < 1000 {
		t.Error("only", seen)
	}
}

func TestFormationsHaveThePointsThatArePicked(t *testing.T) {
	for _, l := range samples() {
		if len(l) == 0 {
			continue
		}
		for many := range len(l) + 1 {
			isFormation(t, api.Figure{dots(l)}, many, set(picks(t, l, many)), api.OK)
		}
	}
}

// Rules: arguments are not changed, results are new, and equal calls have equal results.

func TestArgumentsAreNotChanged(t *testing.T) {
	for _, l := range samples() {
		before := slices.Clone(l)
		chosen := slices.Clone(l)
		slices.Reverse(chosen)
		order := slices.Clone(chosen)
		f := api.Figure{dots(chosen)}
		for range 2 {
			for many := range len(l) + 1 {
				got := picks(t, l, many)
				for i := range got {
					got[i] = v(9, 9, 9)
				}
				got, _ = scatter.Formation(f, many)
				for i := range got {
					got[i] = v(9, 9, 9)
				}
			}
			scatter.Spread(l)
			scatter.Cover(l, chosen)
			if !slices.Equal(l, before) || !slices.Equal(chosen, order) {
				t.Fatal(l, chosen, before)
			}
			if len(l) > 0 {
				isPicked(t, l, len(l), picked(before, len(l)), api.OK)
				isFormation(t, f, len(l), before, api.OK)
			}
		}
	}
}
