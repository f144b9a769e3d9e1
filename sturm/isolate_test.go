package sturm_test

import (
	"math"
	"slices"
	"testing"

	"skylantern/api"
	"skylantern/poly"
	"skylantern/sturm"
	"skylantern/wide"
)

// The tests of P3.4.

// between returns an interval between ratios of ints.
func between(a, b, c, d int) api.Interval {
	return api.Interval{From: ratio(a, b), To: ratio(c, d)}
}

func TestIsolateExamples(t *testing.T) {
	for i, c := range []struct {
		p        api.Poly
		a, b     api.Ratio
		halvings int
		want     []api.Interval
	}{
		{ints(-2, 0, 1), ratio(-2, 1), ratio(2, 1), 2, []api.Interval{between(-2, 1, -1, 1), between(1, 1, 2, 1)}},
		{ints(-2, 0, 1), ratio(-2, 1), ratio(2, 1), 3, []api.Interval{between(-3, 2, -1, 1), between(1, 1, 3, 2)}},
		{ints(-2, 0, 1), ratio(0, 1), ratio(2, 1), 2, []api.Interval{between(1, 1, 3, 2)}},
		{ints(1, -2, 1), ratio(0, 1), ratio(4, 1), 0, []api.Interval{between(0, 1, 4, 1)}},
		{ints(0, -1, 8), ratio(-1, 1), ratio(1, 1), 0, []api.Interval{between(-1, 1, 0, 1), between(0, 1, 1, 1)}},
		// The root is halfway, and so belongs to the first half.
		{ints(-1, 1), ratio(0, 1), ratio(2, 1), 1, []api.Interval{between(0, 1, 1, 1)}},
		{ints(-1, 1), ratio(0, 1), ratio(2, 1), 3, []api.Interval{between(3, 4, 1, 1)}},
		// The first root does not count, but a halving must not be misled by it.
		{ints(0, -1, 1), ratio(0, 1), ratio(4, 1), 0, []api.Interval{between(0, 1, 4, 1)}},
		{ints(0, -1, 1), ratio(0, 1), ratio(4, 1), 3, []api.Interval{between(1, 2, 1, 1)}},
		{ints(0, 1, -1), ratio(0, 1), ratio(3, 1), 2, []api.Interval{between(3, 4, 3, 2)}},
		{ints(-1, 1), ratio(1, 1), ratio(1, 1), 0, nil},
		{ints(-1, 1), ratio(1, 1), ratio(2, 1), 9, nil},
		{ints(-1, 1), ratio(0, 1), ratio(1, 1), 1, []api.Interval{between(1, 2, 1, 1)}},
		{ints(1, 0, 1), ratio(-9, 1), ratio(9, 1), 5, nil},
		{ints(-3), ratio(-9, 1), ratio(9, 1), 0, nil},
		// Ends come in lowest terms, also if nothing is halved.
		{ints(-1, 1), ratio(2, 6), ratio(8, 4), 0, []api.Interval{between(1, 3, 2, 1)}},
		{ints(0, 1), ratio(-4, 8), ratio(0, 9), 0, []api.Interval{between(-1, 2, 0, 1)}},
		{ints(-1, 4), ratio(0, 3), ratio(6, 6), 2, []api.Interval{between(0, 1, 1, 4)}},
		// Two roots that one halving separates, and one more halving is asked for.
		{ints(2, -3, 1), ratio(0, 1), ratio(2, 1), 2, []api.Interval{between(1, 2, 1, 1), between(3, 2, 2, 1)}},
		{ints(6, -11, 6, -1), ratio(0, 1), ratio(4, 1), 0, []api.Interval{between(0, 1, 1, 1), between(1, 1, 2, 1), between(2, 1, 4, 1)}},
	} {
		l, e := sturm.Isolate(c.p, c.a, c.b, c.halvings)
		if !slices.Equal(l, c.want) || e != api.OK {
			t.Error(i, l, e)
		}
	}
}

// TestIsolateSamples holds Isolate against the definition, with numbers of roots by Descartes' rule.
func TestIsolateSamples(t *testing.T) {
	for _, p := range samples() {
		s := squareFree(ratsOf(p))
		for _, c := range [][2]api.Ratio{{ratio(-20, 1), ratio(20, 1)}, {ratio(-1, 1), ratio(1, 1)}, {ratio(0, 1), ratio(10, 3)}, {ratio(-35, 20), ratio(1<<30, 7)}} {
			a, b := ratOf(c[0]), ratOf(c[1])
			for _, halvings := range []int{0, 1, 4, 11} {
				want := unitOf(s, a, b).isolated(a, b, 0, halvings)
				l, e := sturm.Isolate(p, c[0], c[1], halvings)
				if !slices.Equal(l, want) || e != api.OK {
					t.Fatal("Isolate", short(p), c, halvings, l, want, e)
				}
			}
		}
	}
}

func TestIsolateWithMostHalvings(t *testing.T) {
	p := ints(-2, 0, 1)
	l, e := sturm.Isolate(p, ratio(-2, 1), ratio(2, 1), sturm.MaxHalvings)
	if len(l) != 2 || e != api.OK {
		t.Fatal(l, e)
	}
	for _, i := range l {
		// 4 divided by 2^200 is the width.
		width, _ := wide.SubRatio(i.To, i.From)
		if width != (api.Ratio{Num: wide.Of(1), Den: power(198, 0)}) {
			t.Error(width)
		}
		expectCount(t, p, i.From, i.To, 1)
	}
	// All roots of the largest polynomial, between the greatest ends.
	r := source()
	p = randomPoly(r, poly.MaxDegree, most(poly.MaxDegree), 1)
	top := power(sturm.MaxEnd-1, 0)
	from, to := api.Ratio{Num: negative(top), Den: wide.Of(3)}, api.Ratio{Num: top, Den: wide.Of(1)}
	l, e = sturm.Isolate(p, from, to, sturm.MaxHalvings)
	if n := mustCount(t, p, from, to); len(l) != n || n == 0 || e != api.OK {
		t.Error(len(l), n, e)
	}
}

// near returns a polynomial with the roots sign / 2^a and sign / 2^b.
func near(sign, a, b int) api.Poly {
	return product(api.Poly{wide.Of(-sign), power(a, 0)}, api.Poly{wide.Of(-sign), power(b, 0)})
}

func TestIsolateAtTheDepth(t *testing.T) {
	d := sturm.MaxDepth
	tiny := func(sign, bits int) api.Ratio { return api.Ratio{Num: wide.Of(sign), Den: power(bits, 0)} }
	for _, halvings := range []int{0, sturm.MaxHalvings} {
		// The halving that separates them is the last one that is allowed.
		l, e := sturm.Isolate(near(1, d-1, d), ratio(0, 1), ratio(1, 1), halvings)
		want := []api.Interval{{From: ratio(0, 1), To: tiny(1, d)}, {From: tiny(1, d), To: tiny(1, d-1)}}
		if !slices.Equal(l, want) || e != api.OK {
			t.Error(len(l), e)
		}
		l, e = sturm.Isolate(near(-1, d, d+1), ratio(-1, 1), ratio(0, 1), halvings)
		want = []api.Interval{{From: tiny(-1, d-1), To: tiny(-1, d)}, {From: tiny(-1, d), To: ratio(0, 1)}}
		if !slices.Equal(l, want) || e != api.OK {
			t.Error(len(l), e)
		}
		// One more would be needed, whatever else is found before.
		for i, c := range []struct {
			p        api.Poly
			from, to int
		}{{near(1, d, d+1), 0, 1}, {near(-1, d+1, d+2), -1, 0}, {near(1, 1300, 1301), 0, 1}, {near(1, d-50, d-49), 0, 1 << 62}} {
			for _, q := range []api.Poly{c.p, product(c.p, linear(-1, 3)), product(c.p, linear(1, 3))} {
				l, e := sturm.Isolate(q, ratio(c.from, 1), ratio(c.to, 1), halvings)
				if len(l) != 0 || e != api.ErrFull {
					t.Error(i, len(l), e)
				}
			}
		}
	}
}

func TestIsolateErrors(t *testing.T) {
	for _, halvings := range []int{-1, sturm.MaxHalvings + 1, math.MinInt, math.MaxInt} {
		for _, p := range []api.Poly{ints(1, 1), nil, {power(9000, 0)}} {
			for _, c := range [][2]api.Ratio{{ratio(0, 1), ratio(1, 1)}, {ratio(1, 1), ratio(0, 1)}} {
				if l, e := sturm.Isolate(p, c[0], c[1], halvings); len(l) != 0 || e != api.ErrArg {
					t.Error(halvings, len(l), e)
				}
			}
		}
	}
}
