package wide_test

import (
	"math"
	"math/big"
	"testing"

	"skylantern/api"
	"skylantern/wide"
)

// ratio returns a ratio of ints as it is.
func ratio(num, den int) api.Ratio {
	return api.Ratio{Num: wide.Of(num), Den: wide.Of(den)}
}

// fraction returns a valid ratio as a big one.
func fraction(r api.Ratio) *big.Rat {
	return new(big.Rat).SetFrac(bigOf(r.Num), bigOf(r.Den))
}

// expectRatio fails unless a ratio and an error are those of a big ratio.
func expectRatio(t *testing.T, what string, got api.Ratio, e api.Errno, want *big.Rat) {
	t.Helper()
	r, f := api.Ratio{Num: wideOf(want.Num()), Den: wideOf(want.Denom())}, api.OK
	if max(want.Num().BitLen(), want.Denom().BitLen()) > wide.MaxBits {
		r, f = api.Ratio{}, api.ErrFull
	}
	if got != r || e != f {
		t.Fatalf("%s: got %s / %s, error %d; want %s / %s, error %d", what, short(got.Num), short(got.Den), e, short(r.Num), short(r.Den), f)
	}
}

// ratios returns ratios, also such that are not in lowest terms, with small and with large parts.
func ratios() []api.Ratio {
	all := []api.Ratio{ratio(0, 1), ratio(0, 6), ratio(1, 2), ratio(2, 4), ratio(-3, 6), ratio(-7, 3), ratio(6, 3), ratio(-1, 1), ratio(math.MinInt, 2), ratio(1, math.MaxInt), ratio(-2, math.MaxInt-1)}
	top, even := greatest(), power(wide.MaxBits-1, 0)
	for _, r := range [][2]api.Wide{{top, wide.Of(3)}, {negative(top), even}, {even, top}, {wide.Of(-1), even}, {even, power(64, -1)}, {power(64, 0), even}, {negative(top), top}} {
		all = append(all, api.Ratio{Num: r[0], Den: r[1]})
	}
	r := source()
	for range 30 {
		den := bigOf(randomLimbs(r, 1+r.Intn(4)))
		den.Abs(den).Add(den, big.NewInt(1))
		all = append(all, api.Ratio{Num: randomLimbs(r, 1+r.Intn(4)), Den: wideOf(den)})
	}
	return all
}

// invalidRatios returns ratios that are not valid.
func invalidRatios() []api.Ratio {
	all := []api.Ratio{{}, ratio(1, 0), ratio(1, -2), ratio(0, -1)}
	for _, w := range invalid() {
		all = append(all, api.Ratio{Num: w, Den: wide.Of(1)}, api.Ratio{Num: wide.Of(1), Den: w})
	}
	return all
}

// P1.7

func TestValidRatio(t *testing.T) {
	for i, r := range ratios() {
		if !wide.ValidRatio(r) {
			t.Error("not valid:", i)
		}
	}
	for i, r := range invalidRatios() {
		if wide.ValidRatio(r) {
			t.Error("valid:", i)
		}
	}
}

func TestRatioOf(t *testing.T) {
	for i, c := range [][4]int{{6, -4, -3, 2}, {0, -5, 0, 1}, {0, 5, 0, 1}, {-9, -3, 3, 1}, {1, 1, 1, 1}, {math.MinInt, 2, math.MinInt / 2, 1}, {math.MinInt, math.MinInt, 1, 1}} {
		if r, e := wide.RatioOf(c[0], c[1]); r != ratio(c[2], c[3]) || e != api.OK {
			t.Error(i, r, e)
		}
	}
	if r, e := wide.RatioOf(1, math.MinInt); r.Num != wide.Of(-1) || r.Den != power(63, 0) || e != api.OK {
		t.Error(r, e)
	}
	for _, num := range []int{0, 1, math.MinInt} {
		r, e := wide.RatioOf(num, 0)
		expectError(t, "RatioOf", r, e, api.ErrRange)
	}
}

func TestRatio(t *testing.T) {
	pairs(func(num, den api.Wide) {
		name := "Ratio " + short(num) + " " + short(den)
		r, e := wide.Ratio(num, den)
		if wide.Sign(den) == 0 {
			expectError(t, name, r, e, api.ErrRange)
			return
		}
		expectRatio(t, name, r, e, new(big.Rat).SetFrac(bigOf(num), bigOf(den)))
	})
}

func TestRatioErrors(t *testing.T) {
	for _, w := range invalid() {
		r, e := wide.Ratio(w, wide.Of(0))
		expectError(t, "Ratio", r, e, api.ErrArg)
		r, e = wide.Ratio(wide.Of(0), w)
		expectError(t, "Ratio", r, e, api.ErrArg)
	}
}

func TestFloor(t *testing.T) {
	for _, r := range ratios() {
		w, e := wide.Floor(r)
		expect(t, "Floor", w, e, new(big.Int).Div(bigOf(r.Num), bigOf(r.Den)))
	}
	for i, c := range [][3]int{{-3, 2, -2}, {3, 2, 1}, {-4, 2, -2}, {0, 7, 0}, {-1, 9, -1}} {
		if w, e := wide.Floor(ratio(c[0], c[1])); w != wide.Of(c[2]) || e != api.OK {
			t.Error(i, short(w), e)
		}
	}
	for _, r := range invalidRatios() {
		w, e := wide.Floor(r)
		expectError(t, "Floor", w, e, api.ErrArg)
	}
}

// P1.8

func TestRatioCalculation(t *testing.T) {
	all := ratios()
	for i, a := range all {
		for _, b := range all[i:] {
			x, y := fraction(a), fraction(b)
			if n, e := wide.CompareRatio(a, b); n != x.Cmp(y) || e != api.OK {
				t.Fatal("CompareRatio", short(a.Num), short(a.Den), short(b.Num), short(b.Den), n, e)
			}
			s, e := wide.AddRatio(a, b)
			expectRatio(t, "AddRatio", s, e, new(big.Rat).Add(x, y))
			d, e := wide.SubRatio(a, b)
			expectRatio(t, "SubRatio", d, e, new(big.Rat).Sub(x, y))
			p, e := wide.MulRatio(a, b)
			expectRatio(t, "MulRatio", p, e, new(big.Rat).Mul(x, y))
		}
	}
}

func TestRatioExamples(t *testing.T) {
	if r, e := wide.AddRatio(ratio(1, 2), ratio(1, 3)); r != ratio(5, 6) || e != api.OK {
		t.Error("AddRatio", r, e)
	}
	if r, e := wide.SubRatio(ratio(1, 2), ratio(3, 6)); r != ratio(0, 1) || e != api.OK {
		t.Error("SubRatio", r, e)
	}
	if r, e := wide.MulRatio(ratio(2, 3), ratio(3, 4)); r != ratio(1, 2) || e != api.OK {
		t.Error("MulRatio", r, e)
	}
	for i, c := range [][5]int{{2, 4, 1, 2, 0}, {-1, 3, -1, 2, 1}, {-1, 2, 0, 5, -1}, {0, 3, 0, 7, 0}, {0, 3, -1, 9, 1}, {1, 3, 1, 4, 1}} {
		if n, e := wide.CompareRatio(ratio(c[0], c[1]), ratio(c[2], c[3])); n != c[4] || e != api.OK {
			t.Error(i, n, e)
		}
	}
}

func TestOnlyTheResultMustFit(t *testing.T) {
	top := greatest()
	a := api.Ratio{Num: top, Den: power(wide.MaxBits-1, 0)}
	b := api.Ratio{Num: power(wide.MaxBits-1, 0), Den: top}
	if r, e := wide.MulRatio(a, b); r != ratio(1, 1) || e != api.OK {
		t.Error("MulRatio", e)
	}
	if r, e := wide.SubRatio(a, a); r != ratio(0, 1) || e != api.OK {
		t.Error("SubRatio", e)
	}
	if r, e := wide.AddRatio(api.Ratio{Num: top, Den: top}, api.Ratio{Num: power(wide.MaxBits-1, 0), Den: power(wide.MaxBits-1, 0)}); r != ratio(2, 1) || e != api.OK {
		t.Error("AddRatio", e)
	}
	if n, e := wide.CompareRatio(a, b); n != 1 || e != api.OK {
		t.Error("CompareRatio", n, e)
	}
	// In these only the numerator is too large, or only the denominator.
	full := [][2]api.Ratio{{{Num: top, Den: wide.Of(1)}, {Num: top, Den: wide.Of(1)}}, {{Num: wide.Of(1), Den: top}, {Num: wide.Of(1), Den: power(wide.MaxBits-1, 0)}}}
	for _, c := range full {
		r, e := wide.AddRatio(c[0], c[1])
		expectError(t, "AddRatio", r, e, api.ErrFull)
		r, e = wide.MulRatio(c[0], c[1])
		expectError(t, "MulRatio", r, e, api.ErrFull)
	}
	r, e := wide.SubRatio(full[0][0], api.Ratio{Num: negative(top), Den: wide.Of(1)})
	expectError(t, "SubRatio", r, e, api.ErrFull)
}

func TestRatioCalculationErrors(t *testing.T) {
	good := api.Ratio{Num: greatest(), Den: wide.Of(1)}
	for _, bad := range invalidRatios() {
		for _, c := range [][2]api.Ratio{{bad, good}, {good, bad}, {bad, bad}} {
			n, e := wide.CompareRatio(c[0], c[1])
			expectError(t, "CompareRatio", n, e, api.ErrArg)
			for _, op := range []func(a, b api.Ratio) (api.Ratio, api.Errno){wide.AddRatio, wide.SubRatio, wide.MulRatio} {
				r, e := op(c[0], c[1])
				expectError(t, "of invalid ratios", r, e, api.ErrArg)
			}
		}
	}
}
