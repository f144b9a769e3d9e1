package sturm_test

import (
	"math/rand"
	"slices"
	"testing"

	"skylantern/api"
	"skylantern/poly"
	"skylantern/sturm"
	"skylantern/wide"
)

// The tests of P3.5.

// someEnds returns increasing ratios, some of them roots of samples.
func someEnds() []api.Ratio {
	return []api.Ratio{ratio(-50, 1), ratio(-7, 4), ratio(-1, 1), ratio(-1, 3), ratio(0, 1), ratio(2, 5), ratio(1, 1), ratio(3, 2), ratio(12, 1), ratio(1000, 1)}
}

func TestNeighboursAddUp(t *testing.T) {
	ends := someEnds()
	for _, p := range samples() {
		sum := 0
		for i, b := range ends[1:] {
			sum += mustCount(t, p, ends[i], b)
			expectCount(t, p, ends[0], b, sum)
		}
	}
}

func TestEqualRoots(t *testing.T) {
	ends := someEnds()
	for _, p := range samples() {
		s, e := sturm.SquareFree(p)
		if e != api.OK {
			t.Fatal(short(p), e)
		}
		five, _ := poly.Scale(p, wide.Of(5))
		minus, _ := poly.Scale(p, wide.Of(-1))
		same := []api.Poly{s, five, minus}
		if square, e := poly.Mul(p, p); e == api.OK && sturm.Fits(square) {
			same = append(same, square)
		}
		total, _ := sturm.Total(p)
		for _, q := range same {
			if n, e := sturm.Total(q); n != total || e != api.OK {
				t.Fatal("Total", short(p), short(q), n, e)
			}
			if r, e := sturm.SquareFree(q); !slices.Equal(r, s) || e != api.OK {
				t.Fatal("SquareFree", short(p), short(q), short(r), e)
			}
			for i, b := range ends[1:] {
				expectCount(t, q, ends[i], b, mustCount(t, p, ends[i], b))
			}
			l, e := sturm.Isolate(p, ends[0], ends[9], 5)
			if m, f := sturm.Isolate(q, ends[0], ends[9], 5); !slices.Equal(l, m) || e != api.OK || f != api.OK {
				t.Fatal("Isolate", short(p), short(q), e, f)
			}
		}
	}
}

// bounds returns the bound of a polynomial and its negative as ratios.
func bounds(t *testing.T, p api.Poly) (low, high api.Ratio) {
	t.Helper()
	b, e := sturm.Bound(p)
	if e != api.OK {
		t.Fatal("Bound", short(p), e)
	}
	return api.Ratio{Num: negative(b), Den: wide.Of(1)}, api.Ratio{Num: b, Den: wide.Of(1)}
}

func TestRootsLieWithinTheBound(t *testing.T) {
	for _, p := range samples() {
		total, e := sturm.Total(p)
		if e != api.OK {
			t.Fatal("Total", short(p), e)
		}
		low, high := bounds(t, p)
		expectCount(t, p, low, high, total)
		if n, e := poly.SignAt(p, high); n == 0 || e != api.OK {
			t.Error("a root at the bound", short(p))
		}
	}
}

func TestIntervalsOfRoots(t *testing.T) {
	for _, p := range samples() {
		low, high := bounds(t, p)
		total, _ := sturm.Total(p)
		for _, halvings := range []int{0, 3, 40} {
			l, e := sturm.Isolate(p, low, high, halvings)
			if len(l) != total || e != api.OK {
				t.Fatal("Isolate", short(p), len(l), total, e)
			}
			last := low
			for _, i := range l {
				expectCount(t, p, i.From, i.To, 1)
				order, e := wide.CompareRatio(last, i.From)
				inside, f := wide.CompareRatio(i.To, high)
				if order > 0 || inside > 0 || e != api.OK || f != api.OK {
					t.Fatal("Isolate", short(p), ratOf(i.From), ratOf(i.To))
				}
				last = i.To
			}
		}
	}
}

func TestCountFollowsFromTheChain(t *testing.T) {
	changes := func(l []api.Poly, at api.Ratio) int {
		count, last := 0, 0
		for _, p := range l {
			sign, e := poly.SignAt(p, at)
			if e != api.OK {
				t.Fatal("SignAt", short(p), e)
			}
			if sign*last < 0 {
				count++
			}
			if sign != 0 {
				last = sign
			}
		}
		return count
	}
	ends := someEnds()
	for _, p := range samples() {
		l, e := sturm.Chain(p)
		if e != api.OK {
			t.Fatal("Chain", short(p), e)
		}
		for i, b := range ends[1:] {
			expectCount(t, p, ends[i], b, changes(l, ends[i])-changes(l, b))
		}
	}
}

// P1, and the rules of DOC.md about arguments and results.

func TestNothingIsSharedOrModified(t *testing.T) {
	for _, p := range []api.Poly{ints(5), ints(-5), ints(0, 1), ints(3, -1), ints(-1, 0, 1), ints(1, 2, 1), ints(1, -3, 0, 1), ints(6, -17, 17, -7, 1)} {
		// Room behind the coefficients must not be used either.
		given := append(slices.Clone(p), ints(7, 7, 7)...)
		kept := slices.Clone(given)
		q := given[:len(p)]
		s, e := sturm.SquareFree(q)
		l, f := sturm.Chain(q)
		if e != api.OK || f != api.OK {
			t.Fatal(short(p), e, f)
		}
		want := slices.Clone(l)
		for i := range want {
			want[i] = slices.Clone(l[i])
		}
		spoil(s)
		for i := range l {
			if !slices.Equal(l[i], want[i]) {
				t.Error("parts of a result share memory", short(p), i)
			}
			spoil(l[i])
		}
		sturm.Count(q, ratio(0, 1), ratio(3, 1))
		sturm.Isolate(q, ratio(0, 1), ratio(3, 1), 3)
		sturm.Total(q)
		sturm.Bound(q)
		if !slices.Equal(given, kept) {
			t.Error("an argument has been changed", short(p))
		}
		if again, _ := sturm.Chain(q); !slices.EqualFunc(again, want, poly.Equal) {
			t.Error("a result depends on earlier calls", short(p))
		}
	}
}

// spoil overwrites all memory of a polynomial.
func spoil(p api.Poly) {
	for i := range p[:cap(p)] {
		p[:cap(p)][i] = wide.Of(99)
	}
}

func TestNoPanic(t *testing.T) {
	r := rand.New(rand.NewSource(2))
	for range 3000 {
		p, a, b, halvings := anyPoly(r), anyRatio(r), anyRatio(r), r.Intn(30)-2
		bad := !poly.Valid(p)
		l, e := sturm.Chain(p)
		s, f := sturm.SquareFree(p)
		n, g := sturm.Total(p)
		w, h := sturm.Bound(p)
		if f != e || g != e || h != e || (e == api.ErrArg) != bad || (e == api.ErrRange) != (len(p) == 0) {
			t.Fatal(short(p), e, f, g, h)
		}
		if (len(l) > 0) != (e == api.OK) || (len(s) > 0) != (e == api.OK) || n < 0 || n > len(p) || (wide.Sign(w) > 0) != (e == api.OK) {
			t.Fatal(short(p), len(l), short(s), n, w)
		}
		bad = bad || !wide.ValidRatio(a) || !wide.ValidRatio(b)
		n, e = sturm.Count(p, a, b)
		if (e == api.ErrArg) != bad || n < 0 || n > len(p) {
			t.Fatal("Count", short(p), n, e)
		}
		found, f := sturm.Isolate(p, a, b, halvings)
		if (f == api.ErrArg) != (bad || halvings < 0) || f != e && halvings >= 0 || f == api.OK && len(found) != n || f != api.OK && len(found) > 0 {
			t.Fatal("Isolate", short(p), e, f, len(found), n)
		}
	}
}

// anyWide returns an integer that need not be valid.
func anyWide(r *rand.Rand) api.Wide {
	if r.Intn(40) > 0 {
		return randomWide(r, 1+r.Intn(20))
	}
	mag := make([]byte, r.Intn(4))
	for i := range mag {
		mag[i] = byte(r.Intn(2))
	}
	return api.Wide{Neg: r.Intn(2) == 0, Mag: string(mag)}
}

// anyPoly returns a polynomial that need not be valid or fit.
func anyPoly(r *rand.Rand) api.Poly {
	p := make(api.Poly, r.Intn(8))
	if r.Intn(20) == 0 {
		p = make(api.Poly, r.Intn(30))
	}
	for i := range p {
		p[i] = anyWide(r)
	}
	return p
}

// anyRatio returns a ratio that need not be valid.
func anyRatio(r *rand.Rand) api.Ratio {
	den := anyWide(r)
	den.Neg = den.Neg && r.Intn(10) == 0
	return api.Ratio{Num: anyWide(r), Den: den}
}
